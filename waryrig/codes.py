"""Codes: what they are, how they run, and whether they are right."""

from waryrig.books import made_book
from waryrig.ends import check_fault_of, check_start
from waryrig.errors import BadCode, Refused
from waryrig.forms import is_from, is_index, is_tuple_of
from waryrig.rigs import CURES, GREATEST_SIGN, REMEDIES, SIGNS, made_rig
from waryrig.walker import Walker

MOST_ROWS = 2000
MOST_OF_WAY = 2000


def made_code(rig, thing):
    """Return the code, or raise BadCode with the number of its first wrong row."""
    made_rig(rig)
    check_code(rig, thing)
    return thing


def is_code(rig, thing):
    """Judge whether this is a rig, and a code for it."""
    try:
        made_code(rig, thing)
    except Refused:
        return False
    return True


def check_code(rig, thing):
    """Raise BadCode unless this is a code for the rig, which is checked already."""
    if not is_tuple_of(thing, 1, MOST_ROWS):
        raise BadCode(-1)
    for number, row in enumerate(thing):
        if not is_row(rig, row, number):
            raise BadCode(number)


def is_row(rig, thing, number):
    """Tell whether this can be the row of that number."""
    if not is_tuple_of(thing, 3, 3):
        return False
    kind, way, rest = thing
    if not is_way(rig, way):
        return False
    if kind == "cure":
        return is_index(rest, rig[REMEDIES])
    return kind == "look" and are_branches(rest, number)


def is_way(rig, thing):
    """Tell whether this is a tuple of settings, as many as are let."""
    if not is_tuple_of(thing, 0, MOST_OF_WAY):
        return False
    many = len(rig[SIGNS])
    for g in thing:
        if not is_index(g, many):
            return False
    return True


def are_branches(thing, number):
    """Tell whether these are branches that lead ahead of the row of that number."""
    if not is_tuple_of(thing, 1, GREATEST_SIGN + 1):
        return False
    ahead = -1
    for pair in thing:
        if not is_tuple_of(pair, 2, 2):
            return False
        sign, row = pair
        if not is_from(sign, ahead + 1, GREATEST_SIGN) or not is_index(row, number):
            return False
        ahead = sign
    return True


def run_code(book, code, start, x):
    """Return the pair (walk, last) of a run of the code from a start under x."""
    rig, _ = made_book(book)
    check_code(rig, code)
    check_start(rig, start)
    check_fault_of(start[0], x)
    return run_rows(book, code, start, x)


def run_rows(book, code, start, x):
    """Do what run_code does, of what is checked already."""
    walker = Walker(book, start, x)
    number = len(code) - 1
    last = None
    while last is None:
        kind, way, rest = code[number]
        last = stopped_on(walker, way)
        if last is None and kind == "cure":
            last = ("cure", rest)
        elif last is None:
            number = branch_for(rest, walker.sign())
            if number is None:
                last = ("nosign", walker.sign())
    return walker.walk(), last


def stopped_on(walker, way):
    """Go the way, and return None, or what the run ends with where one stops."""
    for g in way:
        move = walker.move_to(g)
        if move is None:
            return "nomove", g
        lot = walker.bar_of(move)
        if lot is not None:
            return "barred", lot
        walker.come_to(g)
    return None


def branch_for(branches, sign):
    """Return the number of the row to go on with at the sign, or None."""
    for shown, number in branches:
        if shown == sign:
            return number
    return None


def code_right(book, code, start):
    """Judge whether the code cures each fault of the start's lot."""
    try:
        rig, _ = made_book(book)
        check_code(rig, code)
        check_start(rig, start)
    except Refused:
        return False
    return cures_all(book, code, start)


def cures_all(book, code, start):
    """Do what code_right does, of what is checked already."""
    rig, _ = book
    for x in start[0]:
        _, last = run_rows(book, code, start, x)
        if last[0] != "cure" or last[1] not in rig[CURES][x]:
            return False
    return True
