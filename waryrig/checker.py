"""Whether programs cure each fault, and whether two of them do the same."""

from waryrig.books import made_book
from waryrig.errors import Refused
from waryrig.lots import every_fault
from waryrig.programs import check_program
from waryrig.rigs import CURES
from waryrig.running import outcome_of


def verdict(book, program):
    """Return the pair (fault, outcome) of the least fault that is not cured, or None."""
    rig, _ = made_book(book)
    check_program(rig, program)
    return first_wrong(rig, outcomes(book, program))


def outcomes(book, program):
    """Return a list of the outcomes under all faults, of what is checked already."""
    rig, _ = book
    return [outcome_of(book, program, x) for x in every_fault(rig)]


def first_wrong(rig, found):
    """Do what verdict does, of the outcomes under all faults."""
    for x, outcome in enumerate(found):
        last = outcome[1]
        if last[0] != "cure" or last[1] not in rig[CURES][x]:
            return x, outcome
    return None


def right(book, program):
    """Judge whether this is a book, and a program that cures each fault in it."""
    try:
        return verdict(book, program) is None
    except Refused:
        return False


def same_program(book, one, two):
    """Return whether the programs have equal outcomes under each fault."""
    rig, _ = made_book(book)
    check_program(rig, one)
    check_program(rig, two)
    return outcomes(book, one) == outcomes(book, two)
