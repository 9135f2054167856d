"""Names: what they are, and rigs whose parts have names."""

from waryrig.errors import BadName, BadNamed, Refused
from waryrig.forms import is_tuple_of
from waryrig.rigs import FAULTS, REMEDIES, SIGNS, made_rig

# The places of the four tuples in the names of a rig.
OF_FAULTS = 0
OF_REMEDIES = 1
OF_SETTINGS = 2
OF_SIGNS = 3

MOST_OF_NAME = 12
MOST_SIGNS = 10

LETTERS = "abcdefghijklmnopqrstuvwxyz"
FIGURES = "0123456789"

RESERVED = (
    "signs", "remedies", "fault", "setting", "move", "bar", "while", "and", "or", "not", "go",
    "cure", "if", "else", "times", "set", "clear", "flag", "put", "drop", "check", "parting",
    "stuck", "trips", "code", "open", "binds", "undo", "redo", "strike", "none",
)


def is_name(thing):
    """Judge whether this is a name."""
    if not isinstance(thing, str) or not 1 <= len(thing) <= MOST_OF_NAME:
        return False
    if thing[0] not in LETTERS or thing in RESERVED:
        return False
    return all([sign in LETTERS or sign in FIGURES for sign in thing])


def check_name(thing):
    """Raise BadName unless this is a name."""
    if not is_name(thing):
        raise BadName(thing)


def made_named(thing):
    """Return the named rig, or raise BadNamed, or what made_rig raises of its rig."""
    if not is_tuple_of(thing, 2, 2) or not is_tuple_of(thing[1], 4, 4):
        raise BadNamed(-1)
    rig, names = thing
    made_rig(rig)
    for sort, (least, most) in enumerate(how_many_names(rig)):
        if not are_names(names[sort], least, most):
            raise BadNamed(sort)
    return thing


def is_named(thing):
    """Judge whether this is a named rig."""
    try:
        made_named(thing)
    except Refused:
        return False
    return True


def how_many_names(rig):
    """Return for each sort of names how many there are at least, and at most."""
    greatest = max([max(row) for row in rig[SIGNS]])
    settings = len(rig[SIGNS])
    return (
        (rig[FAULTS], rig[FAULTS]), (rig[REMEDIES], rig[REMEDIES]), (settings, settings),
        (greatest + 1, MOST_SIGNS),
    )


def are_names(thing, least, most):
    """Tell whether this is a tuple of least to most unlike names."""
    if not is_tuple_of(thing, least, most):
        return False
    ahead = {}
    for name in thing:
        if not is_name(name) or name in ahead:
            return False
        ahead[name] = True
    return True


def numbers_of(names):
    """Return a dict of the numbers that the names stand for."""
    return {name: number for number, name in enumerate(names)}
