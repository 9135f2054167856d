"""Walks from home: what they are, what is seen on them, and whether they are safe."""

from waryrig.books import made_book
from waryrig.errors import BadWalk, Refused
from waryrig.forms import is_index, is_tuple_of
from waryrig.lots import agreeing_at, every_fault
from waryrig.rigs import HOME, SIGNS, check_fault, made_rig, moves_by_ends
from waryrig.walker import Walker

MOST_OF_WALK = 2000


def made_walk(rig, thing):
    """Return the walk, or raise BadWalk with the index of what is wrong first."""
    made_rig(rig)
    check_walk(rig, thing)
    return thing


def is_walk(rig, thing):
    """Judge whether this is a rig, and a walk of it."""
    try:
        made_walk(rig, thing)
    except Refused:
        return False
    return True


def check_walk(rig, thing):
    """Raise BadWalk unless this is a walk of the rig, which is checked already."""
    if not is_tuple_of(thing, 1, MOST_OF_WALK):
        raise BadWalk(-1)
    moves = moves_by_ends(rig)
    many = len(rig[SIGNS])
    for index, g in enumerate(thing):
        if not is_index(g, many):
            raise BadWalk(index)
        if index == 0:
            due = g == HOME
        else:
            due = (thing[index - 1], g) in moves
        if not due:
            raise BadWalk(index)


def seen(rig, x, walk):
    """Return the faults that agree with x at each setting of the walk."""
    made_rig(rig)
    check_fault(rig, x)
    check_walk(rig, walk)
    return agreeing_at(rig, every_fault(rig), x, walk)


def first_barred(book, x, walk):
    """Return the pair (index, bar) of the first move that is not free, or None."""
    rig, _ = made_book(book)
    check_fault(rig, x)
    check_walk(rig, walk)
    return first_not_free(book, x, walk)


def first_not_free(book, x, walk):
    """Do what first_barred does, of what is checked already."""
    rig, _ = book
    walker = Walker(book, (every_fault(rig), HOME), x)
    for index in range(1, len(walk)):
        lot = walker.bar_of(walker.move_to(walk[index]))
        if lot is not None:
            return index, lot
        walker.come_to(walk[index])
    return None


def safe(book, x, walk):
    """Judge whether each move of the walk is free at its moment, if x is the fault."""
    try:
        return first_barred(book, x, walk) is None
    except Refused:
        return False
