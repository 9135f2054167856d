"""Rigs: what they are, the numbers of their parts, and what is joined."""

from waryrig.errors import BadFault, BadMove, BadRig, BadSetting
from waryrig.forms import is_ascending, is_from, is_index, is_tuple_of

# The places of the parts in a rig.
FAULTS = 0
REMEDIES = 1
CURES = 2
SIGNS = 3
MOVES = 4

HOME = 0

MOST_FAULTS = 24
MOST_REMEDIES = 16
MOST_SETTINGS = 40
MOST_MOVES = 200
GREATEST_SIGN = 9


def made_rig(thing):
    """Return the rig, or raise BadRig with the place of what is wrong first."""
    where = wrong_place(thing)
    if where is not None:
        raise BadRig(where)
    return thing


def is_rig(thing):
    """Judge whether this is a rig."""
    return wrong_place(thing) is None


def wrong_place(thing):
    """Return the place of the first thing that is wrong, None in a rig."""
    if not is_tuple_of(thing, 5, 5):
        return (-1,)
    n, q, cures, signs, moves = thing
    if not is_from(n, 1, MOST_FAULTS):
        return (FAULTS,)
    if not is_from(q, 1, MOST_REMEDIES):
        return (REMEDIES,)
    # Each part is looked at only when those ahead of it are right, as it is
    # measured by them.
    return wrong_cures(cures, n, q) or wrong_signs(signs, n) or wrong_moves(moves, len(signs))


def wrong_cures(cures, n, q):
    """Return the place of the first wrong entry of the cures, or None."""
    if not is_tuple_of(cures, n, n):
        return (CURES, -1)
    for x, entry in enumerate(cures):
        if not is_ascending(entry, q):
            return (CURES, x)
    return None


def wrong_signs(signs, n):
    """Return the place of the first wrong entry of the signs, or None."""
    if not is_tuple_of(signs, 1, MOST_SETTINGS):
        return (SIGNS, -1)
    for g, entry in enumerate(signs):
        if not are_signs(entry, n):
            return (SIGNS, g)
    return None


def are_signs(entry, n):
    """Tell whether this is a tuple of n signs."""
    if not is_tuple_of(entry, n, n):
        return False
    return all([is_from(sign, 0, GREATEST_SIGN) for sign in entry])


def wrong_moves(moves, settings):
    """Return the place of the first wrong move among so many settings, or None."""
    if not is_tuple_of(moves, 0, MOST_MOVES):
        return (MOVES, -1)
    ahead = (-1, -1)
    for k, pair in enumerate(moves):
        if not (is_tuple_of(pair, 2, 2) and is_ascending(pair, settings) and ahead < pair):
            return (MOVES, k)
        ahead = pair
    return None


def check_fault(rig, x):
    """Raise BadFault unless this is a fault of the rig."""
    if not is_index(x, rig[FAULTS]):
        raise BadFault(x)


def check_setting(rig, g):
    """Raise BadSetting unless this is a setting of the rig."""
    if not is_index(g, len(rig[SIGNS])):
        raise BadSetting(g)


def check_move(rig, move):
    """Raise BadMove unless this is the number of a move of the rig."""
    if not is_index(move, len(rig[MOVES])):
        raise BadMove(move)


def neighbours(rig, g):
    """Return the pairs (setting, move) of all moves that join g with a setting."""
    made_rig(rig)
    check_setting(rig, g)
    found = []
    for move, (low, high) in enumerate(rig[MOVES]):
        if low == g:
            found.append((high, move))
        elif high == g:
            found.append((low, move))
    # As the moves ascend, lesser settings are met first, and all in order.
    return tuple(found)


def moves_by_ends(rig):
    """Return a dict of the moves by the pairs of their settings, both ways round."""
    found = {}
    for move, (low, high) in enumerate(rig[MOVES]):
        found[(low, high)] = move
        found[(high, low)] = move
    return found
