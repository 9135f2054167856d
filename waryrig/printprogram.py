"""From programs to texts."""

from waryrig.errors import BadNumber
from waryrig.names import OF_REMEDIES, OF_SETTINGS, OF_SIGNS, made_named
from waryrig.programs import check_program

# What has a higher level is read as one ahead of what has a lower one.
LEVELS = {"or": 1, "and": 2, "not": 3, "flag": 4, "sign": 4}


def print_program(named, program):
    """Return the text of a program."""
    rig, names = made_named(named)
    check_program(rig, program)
    return text_of_program(names, program)


def text_of_program(names, program):
    """Do what print_program does, of what is checked already."""
    return "; ".join([text_of_statement(names, statement) for statement in program])


def text_of_statement(names, statement):
    """Return the text of a statement."""
    kind, *rest = statement
    if kind == "go":
        return "go " + names[OF_SETTINGS][rest[0]]
    if kind == "cure":
        return "cure " + names[OF_REMEDIES][rest[0]]
    if kind == "set":
        return text_of_flag(rest[0], rest[1])
    if kind == "times":
        return f"times {rest[0]} " + text_of_block(names, rest[1])
    text = "if " + text_of_test(names, rest[0]) + " " + text_of_block(names, rest[1])
    if rest[2] == ():
        return text
    return text + " else " + text_of_block(names, rest[2])


def text_of_flag(number, worth):
    """Return the text of a statement by which the flag of this number becomes 0 or 1."""
    if worth == 1:
        return f"set {number}"
    return f"clear {number}"


def text_of_block(names, body):
    """Return the text of a body in braces."""
    if body == ():
        return "{}"
    return "{ " + text_of_program(names, body) + " }"


def text_of_test(names, test):
    """Return the text of a test."""
    kind, *parts = test
    if kind == "sign":
        return name_of_sign(names, parts[0])
    if kind == "flag":
        return f"flag {parts[0]}"
    level = LEVELS[kind]
    if kind == "not":
        return "not " + text_of_part(names, parts[0], level)
    # As it is read from the left, only the left part may be of the same level.
    left = text_of_part(names, parts[0], level)
    right = text_of_part(names, parts[1], level + 1)
    return f"{left} {kind} {right}"


def text_of_part(names, test, level):
    """Return the text of a test, in brackets if its level is lower."""
    text = text_of_test(names, test)
    if LEVELS[test[0]] < level:
        return f"({text})"
    return text


def name_of_sign(names, sign):
    """Return the name of a sign, or raise BadNumber if it has none."""
    if sign >= len(names[OF_SIGNS]):
        raise BadNumber(sign)
    return names[OF_SIGNS][sign]
