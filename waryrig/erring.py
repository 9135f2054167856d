"""Runs with recorders that err."""

from waryrig.books import made_book
from waryrig.codes import run_rows
from waryrig.ends import from_home
from waryrig.errors import BadLies, BadLooks, BadNumber, Stuck
from waryrig.forms import is_from, is_number, is_tuple_of
from waryrig.ground import Ground
from waryrig.journal import is_entry, missed
from waryrig.lots import every_fault
from waryrig.papers import first_stuck
from waryrig.rigs import GREATEST_SIGN, SIGNS, check_fault, made_rig
from waryrig.solver import told_code

MOST_ERRORS = 4


def alive(rig, e, looks):
    """Return the faults that show another sign than the looks tell at most e times."""
    made_rig(rig)
    check_errors(e)
    if not isinstance(looks, tuple):
        raise BadLooks(-1)
    for index, look in enumerate(looks):
        if not is_entry(rig, look):
            raise BadLooks(index)
    return tuple([x for x in every_fault(rig) if missed(rig, x, looks) <= e])


def check_errors(e):
    """Raise BadNumber unless a recorder may err so often."""
    if not is_from(e, 0, MOST_ERRORS):
        raise BadNumber(e)


def run_erring(book, e, x, lies):
    """Return the triple of the walk, the remedy and the looks of a run with lies."""
    rig, _ = made_book(book)
    check_errors(e)
    check_fault(rig, x)
    check_lies(e, lies)
    ground = Ground(book)
    start = from_home(rig)
    code = told_code(ground, start)
    if code is None:
        raise Stuck(first_stuck(rig, ground, start))
    # Of the looks at a setting at most e lie, and e + 1 tell what is true: so the
    # sign that comes most is the true one, and the run is that without lies.
    walk, last = run_rows(book, code, start, x)
    return walk, last[1], looks_on(rig, e, x, walk, lies)


def check_lies(e, lies):
    """Raise BadLies unless these are at most e lies."""
    if not is_tuple_of(lies, 0, e):
        raise BadLies(-1)
    ahead = -1
    for index, lie in enumerate(lies):
        if not is_lie(lie, ahead):
            raise BadLies(index)
        ahead = lie[0]


def is_lie(thing, ahead):
    """Tell whether this is a pair of a number above the one ahead, and a sign."""
    if not is_tuple_of(thing, 2, 2):
        return False
    number, sign = thing
    return is_number(number) and number > ahead and is_from(sign, 0, GREATEST_SIGN)


def looks_on(rig, e, x, walk, lies):
    """Return the looks that are taken on the walk, under x."""
    told = dict(lies)
    found = []
    for g in walk:
        for _ in range(2 * e + 1):
            found.append((g, told.get(len(found), rig[SIGNS][g][x])))
    return tuple(found)
