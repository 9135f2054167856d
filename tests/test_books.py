"""[5] books."""

import itertools
import unittest

from tests.helping import (
    ANYTHING, BARS, BOOK, NO_RIGS, NO_TUPLES, RIG, Strict, greatest_rig, many_lots, random_books,
    replaced,
)
from waryrig.errors import BadBook, BadRig
from waryrig.books import is_book, made_book
from waryrig.free import barring
from waryrig.regions import region

FOUR = (4, 1, ((0,),) * 4, ((0, 0, 0, 0), (0, 1, 2, 3), (0, 0, 0, 0)), ((0, 1), (0, 2), (1, 2)))
NO_MOVES = (1, 1, ((),), ((0,),), ())


class RightBooks(Strict):

    def right(self, book):
        self.assertIs(made_book(book), book)
        self.assertIs(made_book(thing=book), book)
        self.assertIs(is_book(book), True)
        self.assertIs(is_book(thing=book), True)

    def test_a_right_book_is_returned_as_it_was_handed_in(self):
        self.right(BOOK)
        self.right((RIG, ((), ())))
        self.right((NO_MOVES, ()))
        for book in random_books(60, 6):
            self.right(book)

    def test_one_to_three_faults(self):
        for size in (1, 2, 3):
            for lot in itertools.combinations(range(4), size):
                self.right((FOUR, ((lot,), (), ())))
                self.right((FOUR, ((), (), (lot,))))

    def test_several_bars_ascending(self):
        self.right((FOUR, (((0,), (0, 1), (0, 1, 2), (0, 2), (1,), (3,)), (), ((0, 1), (0, 2)))))

    def test_two_hundred_bars(self):
        self.right((greatest_rig(), (many_lots(200),) * 200))


class WrongBooks(Strict):

    def wrong(self, thing, what):
        with self.subTest(repr(thing)[:200]):
            self.refused(BadBook, what, made_book, thing)
            self.assertIs(is_book(thing), False)

    def test_no_pair(self):
        for thing in NO_TUPLES + ((), (RIG,), BOOK + ((),), RIG, (BOOK,), "ab", [*BOOK]):
            self.wrong(thing, -1)

    def test_no_rig_is_told_ahead_of_wrong_bars(self):
        for thing, where in NO_RIGS:
            for bars in ((), BARS, None, (((1, 0),), ())):
                self.refused(BadRig, where, made_book, (thing, bars))
                self.assertIs(is_book((thing, bars)), False)
        self.refused(BadRig, (-1,), made_book, BOOK[::-1])

    def test_bars_for_too_few_and_too_many_moves(self):
        for bars in NO_TUPLES + ((), ((),), ((),) * 3, BARS + ((),), [*BARS]):
            self.wrong((RIG, bars), -2)
        self.wrong((NO_MOVES, ((),)), -2)
        self.wrong((RIG, ((None,), (), ())), -2)

    def bad_entry(self, entry):
        for move in range(3):
            self.wrong((FOUR, replaced(((), (), ()), move, entry)), move)

    def test_an_entry_that_is_no_tuple(self):
        for entry in NO_TUPLES + ([],):
            self.bad_entry(entry)

    def test_a_lot_that_is_none(self):
        lots = NO_TUPLES + (
            (4,), (-1,), (0, 4), (1, 0), (0, 0), (0, 2, 1), (0, 1, 1), (True,), (False,), (0, True),
            ("0",), (None,), ((0,),), [0],
        )
        for lot in lots:
            self.bad_entry((lot,))
            self.bad_entry(((0,), lot))
        self.bad_entry((0, 1))

    def test_no_fault_and_four(self):
        self.bad_entry(((),))
        self.bad_entry(((), (0,)))
        self.bad_entry(((0, 1, 2, 3),))
        self.bad_entry(((0, 1), (0, 1, 2, 3), (1,)))

    def test_lots_that_do_not_ascend(self):
        self.bad_entry(((1,), (0,)))
        self.bad_entry(((0, 1), (0,)))
        self.bad_entry(((1,), (0, 1)))
        self.bad_entry(((0, 1, 2), (0, 1)))
        self.bad_entry(((0,), (1,), (2,), (1, 2)))

    def test_a_lot_twice(self):
        self.bad_entry(((0,), (0,)))
        self.bad_entry(((0,), (1, 2), (1, 2)))

    def test_more_than_two_hundred_bars(self):
        for many in (201, 202, 300):
            bars = replaced(((),) * 200, 199, many_lots(many))
            self.wrong((greatest_rig(), bars), 199)

    def test_the_first_wrong_move_is_told(self):
        self.wrong((FOUR, (((0,),), ((1, 0),), ((1, 0),))), 1)
        self.wrong((FOUR, ((), ((1,), (0,)), None)), 1)

    def test_anything_is_judged(self):
        for thing in ANYTHING:
            with self.subTest(repr(thing)[:200]):
                self.assertIs(is_book(thing), False)
                self.assertIs(is_book((thing, ())), False)
                self.assertIs(is_book((RIG, thing)), False)
                self.assertIs(is_book((RIG, (thing, ()))), thing == ())
                right = thing in ((0,), (0, 1), (0, 1, 2))
                self.assertIs(is_book((RIG, ((), (thing,)))), right)


class Marks(Strict):

    def test_what_is_told_of_no_book(self):
        for call, rest in ((barring, (None, None)), (region, (None, None))):
            self.refused(BadBook, -1, call, None, *rest)
            self.refused(BadRig, (1,), call, (replaced(RIG, 1, 0), None), *rest)
            self.refused(BadBook, -2, call, (RIG, ((),)), *rest)
            self.refused(BadBook, 1, call, (RIG, ((), ((),))), *rest)


if __name__ == "__main__":
    unittest.main()
