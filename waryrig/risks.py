"""Grades of risk: which bars are to be waived so that there is a code."""

from waryrig.books import made_book
from waryrig.errors import BadGrades, BadNumber
from waryrig.forms import is_from, is_tuple_of
from waryrig.solver import has_code

GREATEST_GRADE = 9


def made_grades(book, thing):
    """Return the grades, or raise BadGrades."""
    made_book(book)
    check_grades(book, thing)
    return thing


def check_grades(book, thing):
    """Raise BadGrades unless these are grades of the book, which is checked already."""
    _, bars = book
    if not is_tuple_of(thing, len(bars), len(bars)):
        raise BadGrades(-1)
    for move, lots in enumerate(bars):
        if not are_grades(thing[move], len(lots)):
            raise BadGrades(move)


def are_grades(thing, many):
    """Tell whether this is a tuple of so many grades."""
    if not is_tuple_of(thing, many, many):
        return False
    return all([is_from(grade, 1, GREATEST_GRADE) for grade in thing])


def waived(book, grades, g):
    """Return the book without the bars whose grade is g or less."""
    made_book(book)
    check_grades(book, grades)
    if not is_from(g, 0, GREATEST_GRADE):
        raise BadNumber(g)
    return graver_alone(book, grades, g)


def graver_alone(book, grades, g):
    """Do what waived does, of what is checked already."""
    rig, bars = book
    kept = []
    for lots, row in zip(bars, grades):
        kept.append(tuple([lot for lot, grade in zip(lots, row) if grade > g]))
    return rig, tuple(kept)


def least_risk(book, grades):
    """Return the least g for which the book waived with it is solvable, or None."""
    made_book(book)
    check_grades(book, grades)
    for g in range(GREATEST_GRADE + 1):
        if has_code(graver_alone(book, grades, g)):
            return g
    return None
