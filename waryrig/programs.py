"""Programs: what they are."""

from waryrig.errors import BadProgram, Refused, TooMany
from waryrig.forms import is_from, is_index, is_tuple_of
from waryrig.rigs import GREATEST_SIGN, REMEDIES, SIGNS, made_rig

MOST_STATEMENTS = 2000
MOST_OF_BODY = 200
DEEPEST_BODY = 30
DEEPEST_TEST = 6
FLAGS = 8
MOST_TIMES = 9
MOST_TIMES_WITHIN = 3


def made_program(rig, thing):
    """Return the program, or raise what is met first in the order of the text."""
    made_rig(rig)
    check_program(rig, thing)
    return thing


def is_program(rig, thing):
    """Judge whether this is a rig, and a program of it."""
    try:
        made_program(rig, thing)
    except Refused:
        return False
    return True


def check_program(rig, thing):
    """Raise BadProgram or TooMany unless this is a program of the rig, which is checked."""
    if not is_body(thing):
        raise BadProgram((-1,))
    Checking(rig).go_through(thing, (), 1, 0)


def is_body(thing):
    """Tell whether this can be a body, whatever its statements are."""
    return is_tuple_of(thing, 0, MOST_OF_BODY)


def bodies_of(statement):
    """Return the bodies that stand in a statement, in order."""
    if statement[0] in ("if", "times"):
        return statement[2:]
    return ()


class Checking:
    """Goes through the statements of a program, and counts them."""

    def __init__(self, rig):
        self.rig = rig
        self.met = 0

    def go_through(self, body, place, deep, times):
        """Check the statements of a body that lies so deep, and within so many times."""
        for index, statement in enumerate(body):
            self.met += 1
            if self.met > MOST_STATEMENTS:
                raise TooMany(MOST_STATEMENTS + 1)
            at = (*place, index)
            if not is_statement(self.rig, statement, deep, times):
                raise BadProgram(at)
            within = times
            if statement[0] == "times":
                within = times + 1
            for number, inner in enumerate(bodies_of(statement)):
                self.go_through(inner, (*at, number), deep + 1, within)


def is_statement(rig, thing, deep, times):
    """Tell whether this is a statement, whatever stands in its bodies.

    It stands in a body that lies so deep, and within so many times.
    """
    if not is_tuple_of(thing, 2, 4):
        return False
    kind, *rest = thing
    if kind == "go":
        return len(rest) == 1 and is_index(rest[0], len(rig[SIGNS]))
    if kind == "cure":
        return len(rest) == 1 and is_index(rest[0], rig[REMEDIES])
    if kind == "set":
        return len(rest) == 2 and is_index(rest[0], FLAGS) and is_from(rest[1], 0, 1)
    if kind == "if":
        return len(rest) == 3 and is_test(rest[0], DEEPEST_TEST) and are_bodies(rest[1:], deep + 1)
    if kind == "times" and times < MOST_TIMES_WITHIN:
        return len(rest) == 2 and is_from(rest[0], 1, MOST_TIMES) and are_bodies(rest[1:], deep + 1)
    return False


def are_bodies(things, deep):
    """Tell whether these can be bodies that lie so deep, whatever their statements are."""
    return deep <= DEEPEST_BODY and all([is_body(thing) for thing in things])


def is_test(thing, deep):
    """Tell whether this is a T that is at most so deep."""
    if deep == 0 or not is_tuple_of(thing, 2, 3):
        return False
    kind, *rest = thing
    if kind == "sign":
        return len(rest) == 1 and is_from(rest[0], 0, GREATEST_SIGN)
    if kind == "flag":
        return len(rest) == 1 and is_index(rest[0], FLAGS)
    if kind == "not":
        return len(rest) == 1 and is_test(rest[0], deep - 1)
    if kind == "and" or kind == "or":
        return len(rest) == 2 and is_test(rest[0], deep - 1) and is_test(rest[1], deep - 1)
    return False
