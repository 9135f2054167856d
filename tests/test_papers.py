"""[22] stuck, [23] stuck_right, [24] just one of two papers."""

import unittest

from tests.helping import (
    ANYTHING, BOOK, NO_LOTS, NO_RIGS, NO_STARTS, RIG, Strict, lots_of, random_books, random_starts,
    replaced,
)
from waryrig.codes import code_right
from waryrig.ends import end_from, home
from waryrig.errors import BadBook, BadRig, BadStart
from waryrig.kernel import stuck_right
from waryrig.lots import done, one_sign
from waryrig.papers import stuck
from waryrig.regions import region
from waryrig.solver import code_for, solvable

# The rig of the example in [23].
PAIR = (2, 2, ((0,), (1,)), ((0, 0), (0, 1)), ((0, 1),))
BARRED = (PAIR, (((0, 1),),))
START = ((0, 1), 0)


def plainly_right(book, start, lot):
    """Reckon stuck_right of a lot as its words say."""
    rig = book[0]
    around = region(book, lot, start[1])
    return (set(lot) <= set(start[0]) and not done(rig, lot)
            and all(one_sign(rig, lot, g) for g in around))


class Stuck(Strict):

    def test_the_examples(self):
        self.same(stuck(BARRED, home(PAIR)), (0, 1))
        self.same(stuck((PAIR, (((0,),),)), home(PAIR)), (0, 1))
        self.same(stuck((PAIR, (((1,),),)), home(PAIR)), (0, 1))
        self.same(stuck((PAIR, ((),)), home(PAIR)), None)
        alike = replaced(PAIR, 2, ((0,), (0,)))
        self.same(stuck(book=(alike, (((0, 1),),)), start=home(alike)), None)
        self.same(stuck(BOOK, home(RIG)), None)

    def test_a_fault_that_nothing_cures(self):
        rig = replaced(RIG, 2, ((0,), (1,), ()))
        self.same(stuck((rig, BOOK[1]), home(rig)), (2,))
        self.same(stuck((rig, BOOK[1]), ((0, 1), 0)), None)

    def test_the_end_of_the_least_fault_whose_end_is_not_done(self):
        signs = ((0, 1, 2, 1, 2, 0),)
        rig = (6, 2, ((0,), (0,), (1,), (1,), (0,), (0,)), signs, ())
        self.same(stuck((rig, ()), home(rig)), (1, 3))
        self.same(stuck((rig, ()), ((0, 1, 2, 4, 5), 0)), (2, 4))
        self.same(stuck((rig, ()), ((0, 1, 2, 5), 0)), None)

    def test_not_the_least_lot_but_of_the_ends(self):
        # The lot (1, 3) would be stuck, too, but the ends tell no more than all four.
        rig = (4, 2, ((0,), (0,), (1,), (1,)), ((0, 0, 0, 0), (0, 1, 2, 3)), ((0, 1),))
        self.same(stuck((rig, (((1,),),)), home(rig)), (0, 1, 2, 3))

    def test_from_other_starts(self):
        self.same(stuck(BARRED, ((0, 1), 1)), None)
        self.same(stuck(BARRED, ((0,), 0)), None)
        self.same(stuck(BOOK, ((0, 2), 2)), (0, 2))
        self.same(stuck(BOOK, ((1, 2), 2)), None)

    def test_reckoned_plainly(self):
        told = set()
        for book, start in random_starts(300, 61, 0.4):
            ends = [end_from(book, start, x)[0] for x in start[0]]
            due = next((lot for lot in ends if not done(book[0], lot)), None)
            self.same(stuck(book, start), due)
            told.add(due and len(due))
        self.assertTrue({None, 1, 2, 3} <= told)

    def test_refusals_in_order(self):
        self.refused(BadBook, -1, stuck, None, None)
        self.refused(BadBook, -2, stuck, (RIG, ()), None)
        self.refused(BadBook, 1, stuck, (RIG, ((), None)), None)
        for thing, where in NO_RIGS:
            self.refused(BadRig, where, stuck, (thing, ()), None)
        for thing in NO_STARTS:
            self.refused(BadStart, 0, stuck, BOOK, thing)


class Right(Strict):

    def test_the_examples(self):
        self.assertIs(stuck_right(BARRED, START, (0, 1)), True)
        self.assertIs(stuck_right((PAIR, (((0,),),)), START, (0, 1)), True)
        self.assertIs(stuck_right(book=(PAIR, ((),)), start=START, lot=(0, 1)), False)
        alike = replaced(PAIR, 2, ((0,), (0,)))
        self.assertIs(stuck_right((alike, (((0, 1),),)), START, (0, 1)), False)

    def test_a_lot_not_within_that_of_the_start(self):
        self.assertIs(stuck_right(BARRED, ((0,), 0), (0, 1)), False)
        self.assertIs(stuck_right(BARRED, ((1,), 0), (0, 1)), False)
        book = (replaced(RIG, 2, ((), (), ())), BOOK[1])
        for within in lots_of(3)[1:]:
            for lot in ((0,), (1,), (2,)):
                self.assertIs(stuck_right(book, (within, 0), lot), lot[0] in within)

    def test_one_that_is_done(self):
        for lot in ((), (0,), (1,)):
            self.assertIs(stuck_right(BARRED, START, lot), False)

    def test_one_that_is_parted_in_its_region(self):
        self.assertIs(stuck_right(BARRED, ((0, 1), 1), (0, 1)), False)
        self.assertIs(stuck_right(BOOK, home(RIG), (0, 1, 2)), False)
        self.assertIs(stuck_right(BOOK, home(RIG), (0, 1)), False)
        self.assertIs(stuck_right(BOOK, ((0, 2), 2), (0, 2)), True)

    def test_the_region_is_that_of_the_lot(self):
        # All three are still possible at home, but the bar of fault 2 says
        # nothing about a lot without it.
        book = (replaced(RIG, 3, ((0, 0, 0), (0, 0, 0), (0, 1, 0))), BOOK[1])
        self.assertIs(stuck_right(book, home(RIG), (0, 1, 2)), True)
        self.assertIs(stuck_right(book, home(RIG), (0, 2)), True)
        self.assertIs(stuck_right(book, home(RIG), (1, 2)), True)
        self.assertIs(stuck_right(book, home(RIG), (0, 1)), False)

    def test_what_is_no_book_no_start_no_lot(self):
        rigs = [(thing, ()) for thing, _ in NO_RIGS]
        for thing in [None, PAIR, (PAIR, ()), (PAIR, (None,)), (PAIR, (((),),))] + rigs:
            self.assertIs(stuck_right(thing, START, (0, 1)), False)
        book = (replaced(RIG, 2, ((), (), ())), BOOK[1])
        for thing in NO_STARTS:
            self.assertIs(stuck_right(book, thing, (0,)), False)
        for thing in NO_LOTS:
            self.assertIs(stuck_right(book, home(RIG), thing), False)
        for thing in ANYTHING:
            self.assertIs(stuck_right(thing, home(RIG), (0,)), False)
            self.assertIs(stuck_right(book, thing, (0,)), False)
            self.assertIs(stuck_right(book, home(RIG), thing), thing == (0,))
            self.assertIs(stuck_right(thing, thing, thing), False)

    def test_reckoned_plainly(self):
        right = wrong = 0
        for book, start in random_starts(200, 62, 0.3):
            for lot in lots_of(book[0][0]):
                due = plainly_right(book, start, lot)
                self.assertIs(stuck_right(book, start, lot), due)
                right += due
                wrong += not due
        self.assertGreater(min(right, wrong), 100)


class OneOfTwo(Strict):

    def judged(self, book, start):
        """Look at both papers, and return whether there is a code."""
        code = code_for(book, start)
        lot = stuck(book, start)
        self.assertIs(code is None, lot is not None)
        lots = [one for one in lots_of(book[0][0]) if stuck_right(book, start, one)]
        if code is None:
            self.assertIn(lot, lots)
        else:
            self.assertIs(code_right(book, code, start), True)
            self.assertEqual(lots, [])
        return code is not None

    def test_from_home(self):
        found = [self.judged(book, home(book[0])) for book in random_books(300, 63, 0.5)]
        self.assertGreater(min(found.count(True), found.count(False)), 40)

    def test_from_other_starts(self):
        found = [self.judged(book, start) for book, start in random_starts(300, 64, 0.5)]
        self.assertGreater(min(found.count(True), found.count(False)), 40)

    def test_solvable_tells_which(self):
        for book in random_books(150, 65):
            self.assertIs(solvable(book), stuck(book, home(book[0])) is None)


if __name__ == "__main__":
    unittest.main()
