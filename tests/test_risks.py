"""[55] grades of risk; [57] what is solvable stays so as more bars are waived."""

import random
import unittest

from tests.helping import BOOK, NO_NUMBERS, NO_TUPLES, RIG, Strict, random_books, replaced
from waryrig.books import is_book
from waryrig.errors import BadGrades, BadNumber
from waryrig.risks import least_risk, made_grades, waived
from waryrig.solver import solvable

# The book of the example in [56], whose first bar has the lesser grade.
PAIR = (2, 2, ((0,), (1,)), ((0, 0), (0, 1)), ((0, 1),))
STUCK = (PAIR, (((0,), (0, 1)),))
# A book of three moves, of which the one in the middle has no bars.
LINE = (2, 2, ((0,), (1,)), ((0, 0), (0, 0), (0, 0), (0, 1)), ((0, 1), (1, 2), (2, 3)))
THREE = (LINE, (((0,), (1,)), (), ((0, 1),)))

# What are no grades of a move that has one bar.
NO_ROWS = NO_TUPLES + ((), (1, 1), (0,), (10,), (-1,), (True,), (False,), (None,), ("1",), ((1,),), (10 ** 30,))


def some_grades(chance, book):
    """Return some grades of the book."""
    return tuple(tuple(chance.randint(1, 9) for _ in lots) for lots in book[1])


def plainly_waived(book, grades, g):
    """Take out the bars as the words say."""
    rig, bars = book
    return rig, tuple(
        tuple(lot for k, lot in enumerate(lots) if grades[move][k] > g)
        for move, lots in enumerate(bars))


class Grades(Strict):

    def test_they_are_returned(self):
        self.same(made_grades(BOOK, ((), (1,))), ((), (1,)))
        self.same(made_grades(STUCK, ((9, 1),)), ((9, 1),))
        self.same(made_grades(book=THREE, thing=((1, 9), (), (5,))), ((1, 9), (), (5,)))
        for g in range(1, 10):
            self.same(made_grades(BOOK, ((), (g,))), ((), (g,)))

    def test_moves_without_bars_and_no_moves(self):
        self.same(made_grades((RIG, ((), ())), ((), ())), ((), ()))
        self.same(made_grades(((1, 1, ((),), ((0,),), ()), ()), ()), ())
        self.refused(BadGrades, 0, made_grades, (RIG, ((), ())), ((1,), ()))
        self.refused(BadGrades, -1, made_grades, ((1, 1, ((),), ((0,),), ()), ()), ((),))

    def test_no_tuple_of_as_many_as_there_are_moves(self):
        for thing in NO_TUPLES + ((), ((),), ((1,),), ((), (1,), ()), (None,) * 3):
            self.refused(BadGrades, -1, made_grades, BOOK, thing)

    def test_the_first_wrong_move_is_told(self):
        for row in NO_ROWS:
            self.refused(BadGrades, 1, made_grades, BOOK, ((), row))
            self.refused(BadGrades, 2, made_grades, THREE, ((1, 1), (), row))
            self.refused(BadGrades, 1, made_grades, THREE, ((1, 1), row or None, row))
        for row in ((1, 0), (1, 10), (1, True), (1,), (1, 1, 1)):
            self.refused(BadGrades, 0, made_grades, THREE, (row, (1,), ()))
        self.refused(BadGrades, 1, made_grades, THREE, ((1, 1), (1,), ()))
        self.refused(BadGrades, 0, made_grades, BOOK, (None, None))

    def test_wrong_books(self):
        self.refuses_wrong_books(made_grades, None)


class Waived(Strict):

    def test_the_example(self):
        grades = ((2, 4),)
        self.same(waived(STUCK, grades, 0), STUCK)
        self.same(waived(STUCK, grades, 1), STUCK)
        for g in (2, 3):
            self.same(waived(STUCK, grades, g), (PAIR, (((0, 1),),)))
        for g in range(4, 10):
            self.same(waived(STUCK, grades, g), (PAIR, ((),)))
        self.same(waived(book=STUCK, grades=((4, 2),), g=2), (PAIR, (((0,),),)))

    def test_as_the_words_say(self):
        chance = random.Random(311)
        for book in random_books(100, 312):
            grades = some_grades(chance, book)
            for g in range(10):
                found = waived(book, grades, g)
                self.assertIs(is_book(found), True)
                self.same(found, plainly_waived(book, grades, g))
            self.same(waived(book, grades, 0), book)
            self.same(waived(book, grades, 9), (book[0], ((),) * len(book[1])))

    def test_refusals_in_order(self):
        self.refuses_wrong_books(waived, None, None)
        for thing in NO_TUPLES + ((), ((),)):
            self.refused(BadGrades, -1, waived, BOOK, thing, None)
        self.refused(BadGrades, 1, waived, BOOK, ((), (0,)), None)
        for g in NO_NUMBERS + (-1, 10, 10 ** 30, -10 ** 30):
            self.refused(BadNumber, g, waived, BOOK, ((), (1,)), g)


class LeastRisk(Strict):

    def test_the_example(self):
        self.same(least_risk(STUCK, ((2, 4),)), 4)

    def test_from_0_to_9_and_none(self):
        self.same(least_risk(BOOK, ((), (1,))), 0)
        self.same(least_risk((PAIR, ((),)), ((),)), 0)
        for g in range(1, 10):
            self.same(least_risk((PAIR, (((0, 1),),)), ((g,),)), g)
            self.same(least_risk(book=STUCK, grades=((g, 1),)), g)
            self.same(least_risk(THREE, ((1, g), (), (1,))), g)
        never = replaced(PAIR, 3, ((0, 0), (0, 0)))
        self.same(least_risk((never, ((),)), ((),)), None)
        self.same(least_risk((never, (((0,), (0, 1)),)), ((2, 4),)), None)

    def test_the_least_for_which_it_is_solvable(self):
        chance = random.Random(313)
        found = set()
        for book in random_books(1500, 314, 0.45):
            grades = some_grades(chance, book)
            risk = least_risk(book, grades)
            open_ones = [g for g in range(10) if solvable(waived(book, grades, g))]
            # What is solvable stays so as more is waived.
            self.same(open_ones, list(range(10 if risk is None else risk, 10)))
            self.same(risk, min(open_ones, default=None))
            found.add(risk)
        self.assertTrue({None, 0} < found)
        self.assertGreater(len(found), 5)

    def test_refusals_in_order(self):
        self.refuses_wrong_books(least_risk, None)
        for thing in NO_TUPLES + ((), ((),)):
            self.refused(BadGrades, -1, least_risk, BOOK, thing)
        for row in NO_ROWS:
            self.refused(BadGrades, 1, least_risk, BOOK, ((), row))


if __name__ == "__main__":
    unittest.main()
