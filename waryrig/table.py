"""Books beside one another: what their bars let, and where they are unlike."""

from itertools import combinations

from waryrig.books import MOST_FAULTS_OF_BAR, made_book
from waryrig.closings import Closings
from waryrig.errors import TooMany, Unlike
from waryrig.rigs import FAULTS, MOVES

MOST_FAULTS_OF_TABLE = 10


def table(book):
    """Return for each move the lots of one to three faults with which it is open."""
    check_small(book)
    return told_table(book, True)


def fullest(book):
    """Return the book that has for each move all other such lots as its bars."""
    check_small(book)
    rig, _ = book
    return rig, told_table(book, False)


def check_small(book):
    """Raise TooMany unless this is a book of few enough faults."""
    rig, _ = made_book(book)
    if rig[FAULTS] > MOST_FAULTS_OF_TABLE:
        raise TooMany(rig[FAULTS])


def told_table(book, opened):
    """Return for each move the lots with which it is open, or those with which it is not."""
    rig, _ = book
    closings = Closings(book)
    lots = lots_for_bars(rig[FAULTS])
    found = []
    for move in range(len(rig[MOVES])):
        found.append(tuple([lot for lot in lots if closings.opens(move, lot) == opened]))
    return tuple(found)


def lots_for_bars(n):
    """Return all lots of one to three of n faults, ascending."""
    lots = []
    for many in range(1, MOST_FAULTS_OF_BAR + 1):
        lots.extend(list(combinations(range(n), many)))
    return sorted(lots)


def implies(one, two):
    """Return whether each walk that is safe in one is safe in two, under each fault."""
    check_alike_rigs(one, two)
    return first_opened(Closings(one), two) is None


def alike(one, two):
    """Return whether both books have the same safe walks."""
    check_alike_rigs(one, two)
    return first_opened(Closings(one), two) is None and first_opened(Closings(two), one) is None


def check_alike_rigs(one, two):
    """Check two books, and raise Unlike unless they are of the same rig."""
    rig, _ = made_book(one)
    other, _ = made_book(two)
    if rig != other:
        raise Unlike(0)


def first_opened(closings, other):
    """Return the first move, and its first bar in the other book, that are open, or None."""
    _, bars = other
    for move, lots in enumerate(bars):
        for lot in lots:
            if closings.opens(move, lot):
                return move, lot
    return None


def telling(one, two):
    """Return the pair (fault, walk) of a walk that is safe in one, and not in two, or None."""
    check_alike_rigs(one, two)
    closings = Closings(one)
    found = first_opened(closings, two)
    if found is None:
        return None
    move, lot = found
    walk = closings.opening_walk(move, lot)
    rig, _ = one
    low, high = rig[MOVES][move]
    if walk[-1] == low:
        return lot[0], (*walk, high)
    return lot[0], (*walk, low)
