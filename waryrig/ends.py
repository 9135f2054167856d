"""Where one can start, and how far all that can be seen without harm leads."""

from waryrig.books import made_book
from waryrig.errors import BadFault, BadStart
from waryrig.forms import is_ascending, is_index, is_number, is_tuple_of
from waryrig.ground import Ground
from waryrig.lots import agreeing_at, alike_at, every_fault, parts_at
from waryrig.regions import region_at
from waryrig.rigs import FAULTS, HOME, SIGNS, check_fault, made_rig


def home(rig):
    """Return the start of all faults, at home."""
    made_rig(rig)
    return from_home(rig)


def from_home(rig):
    """Do what home does, of what is checked already."""
    return every_fault(rig), HOME


def made_start(rig, thing):
    """Return the start, or raise BadStart."""
    made_rig(rig)
    check_start(rig, thing)
    return thing


def check_start(rig, thing):
    """Raise BadStart unless this is a start in the rig, which is checked already."""
    if not is_tuple_of(thing, 2, 2):
        raise BadStart(0)
    lot, g = thing
    if lot == () or not is_ascending(lot, rig[FAULTS]) or not is_index(g, len(rig[SIGNS])):
        raise BadStart(0)


def check_fault_of(lot, x):
    """Raise BadFault unless this is a fault of the lot."""
    # True stands in (1,), but is no number.
    if not is_number(x) or x not in lot:
        raise BadFault(x)


def end_from(book, start, x):
    """Return the least lot that can be had under x from a start, and its region."""
    rig, _ = made_book(book)
    check_start(rig, start)
    check_fault_of(start[0], x)
    return end_at(book, start, x)


def end_at(book, start, x):
    """Do what end_from does, of what is checked already."""
    rig, _ = book
    lot, g = start
    known = agreeing_at(rig, lot, x, (g,))
    while True:
        settings = region_at(book, known, g)
        lesser = agreeing_at(rig, known, x, settings)
        if lesser == known:
            return known, settings
        known = lesser


def end(book, x):
    """Return the least lot that can be had under x from home, and its region."""
    rig, _ = made_book(book)
    check_fault(rig, x)
    return end_at(book, from_home(rig), x)


def parting(book):
    """Return the unlike lots of the ends of all faults, from home."""
    rig, _ = made_book(book)
    return lots_of_ends(rig, Ground(book), from_home(rig))


def lots_of_ends(rig, ground, start):
    """Return the unlike lots of the ends from a start, by their least faults.

    What is shown is asked of the rig, what is free of the ground, so that one
    ground serves all rigs that show something else with the same bars.
    """
    lot, g = start
    found = []
    # Faults that agree so far have the same region, so each lot is asked once for
    # all of its faults.
    waiting = [part for _, part in parts_at(rig, lot, g)]
    while waiting:
        known = waiting.pop()
        parts = alike_at(rig, known, ground.region(known, g))
        if len(parts) == 1:
            found.append(known)
        else:
            waiting.extend([tuple(part) for part in parts])
    return tuple(sorted(found))
