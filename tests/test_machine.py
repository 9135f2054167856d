"""[41] runs with cuts of power, [0.3] (d)."""

import random
import unittest

from tests.helping import (
    BOOK, CODE, CURE, NO_CODES, NO_CUTS, RIG, Strict, plain_cut, random_books, replaced, right_codes,
)
from waryrig.errors import BadCode, BadCuts, NotRight
from waryrig.free import free
from waryrig.journal import left
from waryrig.lots import all_faults
from waryrig.machine import run_cut
from waryrig.rigs import neighbours

WALK = (0, 1, 0, 2)
# The book and a code that is right, but not told: it makes a detour.
DETOUR = CODE[:2] + (("look", (0, 1, 0, 2), ((0, 0), (1, 1))), ("cure", (0, 1, 0), 2),
                     ("look", (1,), ((0, 2), (1, 3))))


def by_journal(book):
    """Return what plain_cut asks behind a cut that leaves the journal."""
    lot = all_faults(book[0])
    return lambda here, journal: ((left(book[0], lot, journal), here), journal)


def some_cuts(chance):
    """Return some cuts, mostly of few deeds."""
    return tuple(chance.choice((0, 1, 2, 3, 4, 5, 6, 9, 5000)) for _ in range(chance.randint(0, 6)))


class Examples(Strict):

    def test_both(self):
        self.same(run_cut(BOOK, CODE, 0, (3,)),
                  (WALK, 0, ((0, 0), (1, 0), (1, 0), (0, 0), (2, 0))))
        self.same(run_cut(book=BOOK, code=CODE, x=0, cuts=(2,)),
                  (WALK, 0, ((0, 0), (1, 0), (0, 0), (2, 0))))


class Cuts(Strict):

    def test_no_cuts(self):
        self.same(run_cut(BOOK, CODE, 0, ()), (WALK, 0, ((0, 0), (1, 0), (0, 0), (2, 0))))
        self.same(run_cut(BOOK, CODE, 1, ()), (WALK, 1, ((0, 0), (1, 0), (0, 0), (2, 1))))
        self.same(run_cut(BOOK, CODE, 2, ()), ((0, 1), 2, ((0, 0), (1, 1))))
        one = ((1, 1, ((0,),), ((7,),), ()), ())
        self.same(run_cut(one, (CURE,), 0, ()), ((0,), 0, ((0, 7),)))

    def test_one_cut_behind_each_deed(self):
        # The deeds are see, go, see, go, see, go, see, cure.
        for many, journal in enumerate((
            ((0, 0), (1, 0), (0, 0), (2, 0)),
            ((0, 0), (0, 0), (1, 0), (0, 0), (2, 0)),
            ((0, 0), (1, 0), (0, 0), (2, 0)),
            ((0, 0), (1, 0), (1, 0), (0, 0), (2, 0)),
            ((0, 0), (1, 0), (0, 0), (2, 0)),
            ((0, 0), (1, 0), (0, 0), (0, 0), (2, 0)),
            ((0, 0), (1, 0), (0, 0), (2, 0)),
            ((0, 0), (1, 0), (0, 0), (2, 0), (2, 0)),
            ((0, 0), (1, 0), (0, 0), (2, 0)),
            ((0, 0), (1, 0), (0, 0), (2, 0)),
        )):
            self.same(run_cut(BOOK, CODE, 0, (many,)), (WALK, 0, journal))

    def test_a_cut_of_no_deeds(self):
        for many in range(21):
            self.same(run_cut(BOOK, CODE, 2, (0,) * many), ((0, 1), 2, ((0, 0), (1, 1))))
        # The first see of the run behind it is not done either.
        self.same(run_cut(BOOK, CODE, 2, (1, 0, 0)), ((0, 1), 2, ((0, 0), (0, 0), (1, 1))))

    def test_the_next_cut_is_counted_from_the_see_behind_the_last(self):
        self.same(run_cut(BOOK, CODE, 2, (1, 1, 1)), ((0, 1), 2, ((0, 0),) * 4 + ((1, 1),)))
        self.same(run_cut(BOOK, CODE, 2, (2, 1)), ((0, 1), 2, ((0, 0), (1, 1), (1, 1))))
        self.same(run_cut(BOOK, CODE, 2, (2, 2)), ((0, 1), 2, ((0, 0), (1, 1))))
        self.same(run_cut(BOOK, CODE, 0, (3, 3)), (WALK, 0, (
            (0, 0), (1, 0), (1, 0), (0, 0), (0, 0), (2, 0))))

    def test_a_cut_behind_the_cure_is_not_looked_at(self):
        for cuts in ((4,), (5000,), (4, 0, 0), (5, 1, 1), (5000,) * 20):
            self.same(run_cut(BOOK, CODE, 2, cuts), ((0, 1), 2, ((0, 0), (1, 1))))
        self.same(run_cut(BOOK, CODE, 2, (3, 9, 0)), ((0, 1), 2, ((0, 0), (1, 1), (1, 1))))
        self.same(run_cut(BOOK, CODE, 2, (3, 1, 9)), ((0, 1), 2, ((0, 0), (1, 1), (1, 1), (1, 1))))

    def test_a_code_that_is_not_the_told_one(self):
        self.same(run_cut(BOOK, DETOUR, 2, ()), ((0, 1, 0, 1, 0), 2, (
            (0, 0), (1, 1), (0, 0), (1, 1), (0, 0))))
        # Behind a cut the told one is run.
        self.same(run_cut(BOOK, DETOUR, 2, (4,)), ((0, 1, 0), 2, ((0, 0), (1, 1), (0, 0))))
        self.same(run_cut(BOOK, DETOUR, 0, (5,)), (WALK, 0, (
            (0, 0), (1, 0), (0, 0), (0, 0), (2, 0))))
        self.same(run_cut(BOOK, DETOUR, 0, (12,)), ((0, 1, 0, 1, 0, 2), 0, (
            (0, 0), (1, 0), (0, 0), (1, 0), (0, 0), (2, 0))))

    def test_the_journal_keeps_what_was_seen_before(self):
        # Fault 2 is ruled out at setting 1; the move to 2 stays free behind the cut.
        self.same(run_cut(BOOK, CODE, 1, (4, 1, 1)), (WALK, 1, (
            (0, 0), (1, 0), (0, 0), (0, 0), (0, 0), (2, 1))))

    def test_reckoned_plainly(self):
        chance = random.Random(181)
        told = 0
        for book in random_books(700, 182, 0.7):
            for code in right_codes(chance, book):
                for x in range(book[0][0]):
                    cuts = some_cuts(chance)
                    due, gone = plain_cut(book, code, x, cuts, by_journal(book))
                    self.same(run_cut(book, code, x, cuts), due)
                    self.assertIn(due[1], book[0][2][x])
                    for walk, journal, g in gone:
                        lot = left(book[0], all_faults(book[0]), journal)
                        move = dict(neighbours(book[0], walk[-1]))[g]
                        self.assertIs(free(book, lot, move), True)
                        told += 1
        self.assertGreater(told, 500)

    def test_each_single_cut(self):
        chance = random.Random(183)
        for book in random_books(60, 184, 0.7):
            for code in right_codes(chance, book)[:2]:
                for x in range(book[0][0]):
                    for cut in range(12):
                        due, _ = plain_cut(book, code, x, (cut, 1), by_journal(book))
                        self.same(run_cut(book, code, x, (cut, 1)), due)

    def test_great_codes(self):
        code = (CURE, ("look", (1, 0) * 1000, ((0, 0),)), ("look", (1, 0) * 1000, ((0, 1),)))
        book = (replaced(RIG, 2, ((0,),) * 3), BOOK[1])
        walk, remedy, journal = run_cut(book, code, 2, (5000,))
        self.assertEqual((len(walk), remedy, len(journal)), (2501, 0, 2501))
        walk, remedy, journal = run_cut(book, code, 2, (4999,))
        self.assertEqual((len(walk), remedy, len(journal)), (2500, 0, 2501))
        self.assertEqual(len(run_cut(book, code, 2, ())[0]), 4001)


class Refusals(Strict):

    def test_in_order(self):
        self.refuses_wrong_books(run_cut, None, 9, None)
        for thing, what in NO_CODES:
            self.refused(BadCode, what, run_cut, BOOK, thing, 9, None)
        self.refuses_wrong_faults(run_cut, (BOOK, (CURE,)), (None,))
        for cuts, what in NO_CUTS:
            # The code is not right, but that is told behind it.
            self.refused(BadCuts, what, run_cut, BOOK, (CURE,), 0, cuts)
            self.refused(BadCuts, what, run_cut, BOOK, CODE, 0, cuts)

    def test_not_right(self):
        for code in ((CURE,), CODE[:3], (("cure", (2,), 0),), CODE[:4]):
            for x in range(3):
                self.refused(NotRight, 0, run_cut, BOOK, code, x, ())
                self.refused(NotRight, 0, run_cut, BOOK, code, x, (0, 5000))
        stuck = (RIG, ((), ((0,), (2,))))
        self.refused(NotRight, 0, run_cut, stuck, CODE, 2, ())

    def test_as_many_as_are_let(self):
        self.same(run_cut(BOOK, CODE, 2, (0,) * 20)[1], 2)
        self.same(run_cut(BOOK, CODE, 2, (5000,) * 20)[1], 2)
        self.refused(BadCuts, -1, run_cut, BOOK, CODE, 2, (0,) * 21)
        self.refused(BadCuts, 0, run_cut, BOOK, CODE, 2, (5001,))


if __name__ == "__main__":
    unittest.main()
