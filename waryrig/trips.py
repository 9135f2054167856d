"""Trips: what is known behind each one, if a recorder is read at home alone."""

from waryrig.books import made_book
from waryrig.ground import Ground
from waryrig.lots import alike_at, common_remedies, every_fault, least_remedy
from waryrig.rigs import HOME, check_fault
from waryrig.rounds import round_through


def course(book, x):
    """Return the lots that are known ahead of each trip and behind the last, under x."""
    rig, _ = made_book(book)
    check_fault(rig, x)
    return courses_on(Ground(book))[x]


def courses_on(ground):
    """Return a list of the courses of all faults."""
    found = {}
    # Faults that agree so far have the same course so far, so each lot is asked
    # once for all of its faults.
    waiting = [(every_fault(ground.rig),)]
    while waiting:
        lots = waiting.pop()
        parts = parts_behind(ground, lots[-1])
        if not parts:
            for x in lots[-1]:
                found[x] = lots
        waiting.extend([(*lots, part) for part in parts])
    return [found[x] for x in every_fault(ground.rig)]


def parts_behind(ground, known):
    """Return a list of the lots that the round of a lot leaves, [] if none is made."""
    if common_remedies(ground.rig, known):
        return []
    parts = alike_at(ground.rig, known, ground.region(known, HOME))
    if len(parts) == 1:
        return []
    return [tuple(part) for part in parts]


def trips(book):
    """Return the least number of trips that always lead to a done lot, or None."""
    made_book(book)
    ground = Ground(book)
    return trips_of(ground, courses_on(ground))


def trips_of(ground, courses):
    """Do what trips does, of the courses of all faults."""
    for lots in courses:
        if not common_remedies(ground.rig, lots[-1]):
            return None
    return max([len(lots) for lots in courses]) - 1


def run_trips(book, x):
    """Return the pair of the rounds that are made under x and the remedy, or None."""
    rig, _ = made_book(book)
    check_fault(rig, x)
    ground = Ground(book)
    lots = courses_on(ground)[x]
    rounds = tuple([round_through(ground.joined(lot)) for lot in lots[:-1]])
    return rounds, least_remedy(rig, lots[-1])
