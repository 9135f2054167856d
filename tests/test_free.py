"""[6] free moves, [7] books with one bar more or less."""

import copy
import itertools
import unittest

from tests.helping import (
    BOOK, NOT_BELOW_TWO, NO_LOTS, NO_RIGS, RIG, Strict, greatest_rig, lots_of, many_lots,
    random_books, replaced,
)
from waryrig.books import is_book
from waryrig.errors import BadBook, BadLot, BadMove, BadRig, NoBar, TooMany, Twice
from waryrig.free import barring, free, with_bar, without_bar

FOUR = (4, 1, ((0,),) * 4, ((0, 0, 0, 0), (0, 1, 2, 3)), ((0, 1),))
PAIR = (FOUR, (((1, 3),),))
TRIPLE = (FOUR, (((0, 1, 3),),))
SEVERAL = (FOUR, (((0, 1, 2), (0, 2), (2,), (2, 3)),))
# Lots that cannot be a bar's, of a rig of three faults.
NO_BARS = NO_LOTS + ((),)


class Free(Strict):

    def test_one_fault(self):
        for lot in lots_of(3):
            self.assertIs(free(BOOK, lot, 0), True)
            self.assertIs(free(BOOK, lot, 1), 2 not in lot)
            self.same(barring(BOOK, lot, 0), None)
            self.same(barring(BOOK, lot, 1), (2,) if 2 in lot else None)

    def test_two_faults_bar_only_while_both_are_possible(self):
        for lot in lots_of(4):
            barred = 1 in lot and 3 in lot
            self.assertIs(free(PAIR, lot, 0), not barred)
            self.same(barring(PAIR, lot, 0), (1, 3) if barred else None)

    def test_three_faults_bar_only_while_all_are_possible(self):
        for lot in lots_of(4):
            barred = lot in ((0, 1, 3), (0, 1, 2, 3))
            self.assertIs(free(TRIPLE, lot, 0), not barred)
            self.same(barring(TRIPLE, lot, 0), (0, 1, 3) if barred else None)

    def test_the_first_lot_is_told(self):
        self.same(barring(SEVERAL, (0, 1, 2, 3), 0), (0, 1, 2))
        self.same(barring(SEVERAL, (0, 2, 3), 0), (0, 2))
        self.same(barring(SEVERAL, (1, 2, 3), 0), (2,))
        self.same(barring(SEVERAL, (2,), 0), (2,))
        self.same(barring(SEVERAL, (0, 1, 3), 0), None)
        self.same(barring(book=SEVERAL, lot=(2, 3), move=0), (2,))
        self.assertIs(free(book=SEVERAL, lot=(2, 3), move=0), False)

    def test_at_no_fault_all_is_free(self):
        for book in (BOOK, PAIR, TRIPLE, SEVERAL):
            for move in range(len(book[1])):
                self.assertIs(free(book, (), move), True)
                self.same(barring(book, (), move), None)

    def test_a_lesser_lot_lets_more(self):
        for book in random_books(30, 7):
            lots = lots_of(book[0][0])
            for move, lot, lesser in itertools.product(range(len(book[1])), lots, lots):
                if set(lesser) <= set(lot) and free(book, lot, move):
                    self.assertIs(free(book, lesser, move), True)

    def test_reckoned_plainly(self):
        for book in random_books(60, 8):
            for move, bars in enumerate(book[1]):
                for lot in lots_of(book[0][0]):
                    within = [bar for bar in bars if set(bar) <= set(lot)]
                    self.assertIs(free(book, lot, move), not within)
                    self.same(barring(book, lot, move), within[0] if within else None)

    def test_refusals_in_order(self):
        for call in (free, barring):
            self.refused(BadBook, -1, call, None, (1, 0), 9)
            self.refused(BadBook, -2, call, (RIG, ()), (1, 0), 9)
            self.refused(BadBook, 0, call, (RIG, (((),), ())), (1, 0), 9)
            for thing, where in NO_RIGS:
                self.refused(BadRig, where, call, (thing, None), (1, 0), 9)
            for lot in NO_LOTS:
                self.refused(BadLot, -1, call, BOOK, lot, 1)
                self.refused(BadLot, -1, call, BOOK, lot, 9)
            for move in NOT_BELOW_TWO:
                self.refused(BadMove, move, call, BOOK, (), move)
                self.refused(BadMove, move, call, BOOK, (0, 1, 2), move)


class WithBar(Strict):

    def test_a_bar_is_put_in_where_it_belongs(self):
        self.same(with_bar(BOOK, 0, (1, 2)), (RIG, (((1, 2),), ((2,),))))
        self.same(with_bar(BOOK, 1, (0, 1, 2)), (RIG, ((), ((0, 1, 2), (2,)))))
        self.same(with_bar(BOOK, 1, (1,)), (RIG, ((), ((1,), (2,)))))
        self.same(with_bar(SEVERAL, 0, (3,))[1], (((0, 1, 2), (0, 2), (2,), (2, 3), (3,)),))
        self.same(with_bar(SEVERAL, 0, (1,))[1], (((0, 1, 2), (0, 2), (1,), (2,), (2, 3)),))
        self.same(with_bar(book=BOOK, move=0, lot=(0,)), (RIG, (((0,),), ((2,),))))

    def test_a_bar_within_another_one_is_one_more(self):
        self.same(with_bar(PAIR, 0, (1,)), (FOUR, (((1,), (1, 3)),)))
        self.same(with_bar(PAIR, 0, (0, 1, 3)), (FOUR, (((0, 1, 3), (1, 3)),)))

    def test_a_bar_of_another_move_is_none_of_this_one(self):
        self.same(with_bar(BOOK, 0, (2,)), (RIG, (((2,),), ((2,),))))

    def test_two_hundred_bars(self):
        lots = many_lots(200)
        rig = greatest_rig()
        for lot in (lots[0], lots[100], lots[199]):
            lesser = tuple(bar for bar in lots if bar != lot)
            less = (rig, replaced(((),) * 200, 7, lesser))
            full = (rig, replaced(((),) * 200, 7, lots))
            self.assertEqual(with_bar(less, 7, lot), full)
            self.assertEqual(without_bar(full, 7, lot), less)
        self.refused(TooMany, 201, with_bar, full, 7, (21, 22, 23))
        self.refused(Twice, 0, with_bar, full, 7, lots[3])
        self.assertEqual(with_bar(full, 6, (0,))[1][6], ((0,),))

    def test_twice(self):
        self.refused(Twice, 0, with_bar, BOOK, 1, (2,))
        for lot in SEVERAL[1][0]:
            self.refused(Twice, 0, with_bar, SEVERAL, 0, lot)


class WithoutBar(Strict):

    def test_a_bar_is_taken_out(self):
        self.same(without_bar(BOOK, 1, (2,)), (RIG, ((), ())))
        self.same(without_bar(SEVERAL, 0, (0, 2)), (FOUR, (((0, 1, 2), (2,), (2, 3)),)))
        self.same(without_bar(book=SEVERAL, move=0, lot=(2,))[1], (((0, 1, 2), (0, 2), (2, 3)),))

    def test_no_bar(self):
        self.refused(NoBar, 0, without_bar, BOOK, 0, (2,))
        self.refused(NoBar, 0, without_bar, BOOK, 1, (1,))
        self.refused(NoBar, 0, without_bar, BOOK, 1, (1, 2))
        self.refused(NoBar, 0, without_bar, PAIR, 0, (1,))
        self.refused(NoBar, 0, without_bar, PAIR, 0, (0, 1, 3))


class Both(Strict):

    def test_put_in_and_taken_out_again(self):
        for book in random_books(40, 9):
            lots = [lot for lot in lots_of(book[0][0]) if 1 <= len(lot) <= 3]
            for move, lot in itertools.product(range(len(book[1])), lots):
                if lot in book[1][move]:
                    less = without_bar(book, move, lot)
                    self.assertNotIn(lot, less[1][move])
                    self.same(with_bar(less, move, lot), book)
                else:
                    more = with_bar(book, move, lot)
                    self.assertIs(is_book(more), True)
                    self.assertIn(lot, more[1][move])
                    self.same(without_bar(more, move, lot), book)

    def test_nothing_handed_in_is_changed(self):
        before = copy.deepcopy(BOOK)
        with_bar(BOOK, 0, (0,))
        without_bar(BOOK, 1, (2,))
        self.same(BOOK, before)

    def test_refusals_in_order(self):
        for call in (with_bar, without_bar):
            self.refused(BadBook, -1, call, None, 9, (1, 0))
            self.refused(BadBook, -2, call, (RIG, ()), 9, (1, 0))
            self.refused(BadBook, 1, call, (RIG, ((), None)), 9, (1, 0))
            for thing, where in NO_RIGS:
                self.refused(BadRig, where, call, (thing, None), 9, (1, 0))
            for move in NOT_BELOW_TWO:
                self.refused(BadMove, move, call, BOOK, move, (2,))
                self.refused(BadMove, move, call, BOOK, move, (1, 0))
            for lot in NO_BARS:
                self.refused(BadLot, -1, call, BOOK, 1, lot)

    def test_four_faults_are_no_bar(self):
        for call in (with_bar, without_bar):
            self.refused(BadLot, -1, call, PAIR, 0, (0, 1, 2, 3))
            self.refused(BadLot, -1, call, PAIR, 0, ())

    def test_a_bad_lot_is_told_ahead_of_a_full_move(self):
        full = (greatest_rig(), (many_lots(200),) * 200)
        self.refused(BadLot, -1, with_bar, full, 0, (0, 1, 2, 3))
        self.refused(BadMove, 200, with_bar, full, 200, (0, 1, 2, 3))


if __name__ == "__main__":
    unittest.main()
