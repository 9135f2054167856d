"""Where one can come to by moves that are free at one lot."""

from waryrig.books import made_book
from waryrig.free import first_within
from waryrig.lots import check_lot
from waryrig.rigs import MOVES, SIGNS, check_setting


def region(book, lot, g):
    """Return the settings that can be come to from g at the lot."""
    rig, _ = made_book(book)
    check_lot(rig, lot)
    check_setting(rig, g)
    return region_at(book, lot, g)


def region_at(book, lot, g):
    """Do what region does, of what is checked already."""
    return tuple(sorted(distances(joined_by_free(book, lot), g)))


def way(book, lot, g, h):
    """Return the least of the shortest ways from g to h at the lot, or None."""
    rig, _ = made_book(book)
    check_lot(rig, lot)
    check_setting(rig, g)
    check_setting(rig, h)
    return least_way(joined_by_free(book, lot), g, h)


def joined_by_free(book, lot):
    """Return for each setting a list of those joined with it by a free move."""
    rig, bars = book
    joined = [[] for row in rig[SIGNS]]
    for move, (low, high) in enumerate(rig[MOVES]):
        if first_within(bars[move], lot) is None:
            joined[low].append(high)
            joined[high].append(low)
    return joined


def distances(joined, g):
    """Return a dict of the fewest moves from g to each setting in its region."""
    away = {g: 0}
    edge = [g]
    while edge:
        further = []
        for here in edge:
            for there in joined[here]:
                if there not in away:
                    away[there] = away[here] + 1
                    further.append(there)
        edge = further
    return away


def least_way(joined, g, h):
    """Return the least of the shortest ways from g to h, None if there is none."""
    # Counted from the end, as then the least setting that is nearer to it can be
    # taken at each step, and never leads astray.
    left = distances(joined, h)
    if g not in left:
        return None
    steps = [g]
    while steps[-1] != h:
        here = steps[-1]
        steps.append(min([there for there in joined[here] if left[there] < left[here]]))
    return tuple(steps)
