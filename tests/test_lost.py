"""[42] to [46]: what is left when all but the setting is lost."""

import random
import unittest

from tests.helping import (
    BOOK, CODE, CURE, CURES, LOST, NOT_BELOW_THREE, NO_CODES, NO_CUTS, RIG, SIGNS, Strict,
    greatest_rig, longest_book, many_lots, plain_cut, random_books, replaced, right_codes,
)
from waryrig.ends import end, end_from
from waryrig.errors import BadCode, BadCuts, BadSetting, NotRight
from waryrig.kernel import loss_right
from waryrig.lost import bears, loss_paper, lost_at, run_lost, safe_way
from waryrig.lots import agreeing, all_faults, done
from waryrig.machine import run_cut
from waryrig.regions import region, way
from waryrig.walks import is_walk, safe

LOST_CODE = (("cure", (0, 2), 0), ("cure", (0, 2), 1), ("look", (1,), ((0, 0), (1, 1))))
# In it, what comes to 2 must have been at 1 before, and what comes to 3 at 2.
ROW = (RIG[:3] + (SIGNS + ((0, 0, 0),), ((0, 1), (1, 2), (2, 3))), ((), ((2,),), ((1,),)))


def plain_lost_at(book, g):
    """Reckon lost_at as its words say."""
    return tuple(x for x in range(book[0][0]) if g in end(book, x)[1])


def plain_loss(book):
    """Reckon the setting and the lot of a loss_paper as the words say."""
    for g in range(len(book[0][3])):
        lot = plain_lost_at(book, g)
        for x in lot:
            known = end_from(book, (lot, g), x)[0]
            if not done(book[0], known):
                return g, known
    return None


def plain_safe_way(book, x, g):
    """Reckon safe_way as its words say."""
    rig = book[0]
    walk = (0,)
    lot = agreeing(rig, all_faults(rig), x, walk)
    while g not in region(book, lot, walk[-1]):
        ways = [way(book, lot, walk[-1], h) for h in region(book, lot, walk[-1])
                if agreeing(rig, lot, x, (h,)) != lot]
        if not ways:
            return None
        walk += min(ways, key=lambda steps: (len(steps), steps[-1]))[1:]
        lot = agreeing(rig, lot, x, walk[-1:])
    return walk + way(book, lot, walk[-1], g)[1:]


def by_nothing(book):
    """Return what plain_cut asks behind a cut that leaves nothing."""
    return lambda here, journal: ((lost_at(book, here), here), ())


class LostAt(Strict):

    def test_the_examples(self):
        self.same(lost_at(BOOK, 0), (0, 1, 2))
        self.same(lost_at(BOOK, 1), (0, 1, 2))
        self.same(lost_at(book=BOOK, g=2), (0, 1))

    def test_a_setting_to_which_nobody_comes(self):
        book = (RIG, ((), ((0,), (1,), (2,))))
        self.same(lost_at(book, 2), ())
        self.same(lost_at(((1, 1, ((0,),), ((0,), (0,)), ()), ()), 1), ())

    def test_at_home_all_are(self):
        for book in random_books(60, 191):
            self.same(lost_at(book, 0), all_faults(book[0]))

    def test_a_row_of_settings(self):
        self.same([lost_at(ROW, g) for g in range(4)], [(0, 1, 2), (0, 1, 2), (0, 1), (0,)])

    def test_home_parts_them(self):
        rig = (3, 3, CURES, ((0, 1, 0), (0, 0, 1)), ((0, 1),))
        self.same(lost_at((rig, (((2,),),)), 1), (1,))
        self.same(lost_at((rig, (((1,),),)), 1), (0, 2))

    def test_reckoned_plainly(self):
        sizes = set()
        for book in random_books(250, 192):
            for g in range(len(book[0][3])):
                due = plain_lost_at(book, g)
                self.same(lost_at(book, g), due)
                sizes.add(len(due))
        self.assertTrue({0, 1, 2, 3} <= sizes)

    def test_refusals_in_order(self):
        self.refuses_wrong_books(lost_at, 9)
        for g in NOT_BELOW_THREE:
            self.refused(BadSetting, g, lost_at, BOOK, g)


class Bears(Strict):

    def test_the_examples(self):
        self.assertIs(bears(BOOK), True)
        self.assertIs(bears(book=LOST), False)

    def test_a_stuck_book_does_not(self):
        self.assertIs(bears((RIG, ((), ((0,), (2,))))), False)
        self.assertIs(bears((replaced(RIG, 2, ((0,), (1,), ())), BOOK[1])), False)

    def test_a_setting_to_which_nobody_comes_asks_nothing(self):
        # From 2 nothing could be had, but nobody comes there.
        self.assertIs(bears((replaced(RIG, 2, ((0,),) * 3), ((), ((0,), (1,), (2,))))), True)
        pair = ((1, 1, ((0,),), ((0,), (0,)), ()), ())
        self.assertIs(bears(pair), True)

    def test_solvable_but_not_bearing(self):
        told = [0, 0]
        for book in random_books(900, 193, 0.5):
            due = plain_loss(book) is None
            self.assertIs(bears(book), due)
            told[due] += all(done(book[0], end(book, x)[0]) for x in range(book[0][0]))
        self.assertGreater(min(told), 5)

    def test_great_books(self):
        self.assertIs(bears(longest_book()), True)
        full = (replaced(greatest_rig(), 2, ((),) * 24), (many_lots(200),) * 200)
        self.assertIs(bears(full), False)
        self.same(loss_paper(full), (0, tuple(range(24)), ((0,),) * 24))

    def test_refusals(self):
        self.refuses_wrong_books(bears)


class SafeWays(Strict):

    def test_the_examples(self):
        self.same(safe_way(BOOK, 0, 2), (0, 1, 0, 2))
        self.same(safe_way(book=BOOK, x=2, g=2), None)

    def test_home(self):
        for x in range(3):
            self.same(safe_way(BOOK, x, 0), (0,))

    def test_straight_to_what_is_in_reach(self):
        for x in range(3):
            self.same(safe_way(BOOK, x, 1), (0, 1))
            self.same(safe_way((RIG, ((), ())), x, 2), (0, 2))

    def test_what_home_shows_is_known(self):
        rig = (3, 3, CURES, ((0, 0, 1), (0, 1, 0)), ((0, 1),))
        for x, due in ((0, (0, 1)), (1, (0, 1)), (2, None)):
            self.same(safe_way((rig, (((2,),),)), x, 1), due)

    def test_nearest_first_and_of_several_the_least(self):
        signs = ((0,) * 4, (0,) * 4, (0, 0, 0, 1), (0, 0, 1, 0), (0, 1, 0, 0), (0,) * 4)
        rig = (4, 1, ((),) * 4, signs, ((0, 1), (0, 2), (0, 3), (0, 5), (1, 4)))
        book = (rig, ((), (), (), ((1,),), ()))
        self.same(safe_way(book, 0, 5), (0, 2, 0, 3, 0, 1, 4, 1, 0, 5))
        book = (rig, ((), (), (), ((2,),), ()))
        self.same(safe_way(book, 0, 5), (0, 2, 0, 3, 0, 5))
        book = (rig, ((), (), (), ((3,),), ()))
        self.same(safe_way(book, 0, 5), (0, 2, 0, 5))
        self.same(safe_way(book, 2, 5), (0, 2, 0, 5))
        self.same(safe_way(book, 3, 5), None)

    def test_reckoned_plainly(self):
        told = [0, 0]
        for book in random_books(300, 194):
            for x in range(book[0][0]):
                for g in range(len(book[0][3])):
                    due = plain_safe_way(book, x, g)
                    self.same(safe_way(book, x, g), due)
                    self.assertIs(due is not None, x in lost_at(book, g))
                    if due is not None:
                        self.assertIs(is_walk(book[0], due), True)
                        self.assertIs(safe(book, x, due), True)
                        self.assertEqual(due[-1], g)
                        told[len(set(due)) < len(due)] += 1
        self.assertGreater(min(told), 20)

    def test_refusals_in_order(self):
        self.refuses_wrong_books(safe_way, 9, 9)
        self.refuses_wrong_faults(safe_way, (BOOK,), (9,))
        for g in NOT_BELOW_THREE:
            self.refused(BadSetting, g, safe_way, BOOK, 2, g)


class Papers(Strict):

    def test_the_examples(self):
        self.same(loss_paper(BOOK), None)
        self.same(loss_paper(book=LOST), (2, (0, 1), ((0, 1, 0, 2), (0, 1, 0, 2))))

    def test_at_home(self):
        # A stuck book does not bear, and home is the least setting that shows it.
        book = (RIG, ((), ((0,), (2,))))
        self.same(loss_paper(book), (0, (0, 1), ((0,), (0,))))
        never = (replaced(RIG, 2, ((0,), (1,), ())), BOOK[1])
        self.same(loss_paper(never), (0, (2,), ((0,),)))

    def test_just_one_of_the_two(self):
        papers = set()
        for book in random_books(900, 195, 0.5):
            paper = loss_paper(book)
            self.assertIs(paper is None, bears(book))
            if paper is not None:
                self.assertIs(loss_right(book, paper), True)
                g, lot = plain_loss(book)
                self.same(paper, (g, lot, tuple(plain_safe_way(book, y, g) for y in lot)))
                papers.add((g > 0, len(lot) > 1))
        self.assertEqual(papers, {(False, False), (False, True), (True, True)})

    def test_refusals(self):
        self.refuses_wrong_books(loss_paper)


class Runs(Strict):

    def test_the_example(self):
        self.same(run_lost(LOST, LOST_CODE, 0, (7,)), ((0, 1, 0, 2), None, ()))
        self.same(run_lost(book=LOST, code=LOST_CODE, x=1, cuts=(7,)), ((0, 1, 0, 2), None, ()))
        self.same(run_cut(LOST, LOST_CODE, 0, (7,)),
                  ((0, 1, 0, 2), 0, ((0, 0), (1, 0), (0, 0), (2, 0), (2, 0))))

    def test_no_cuts(self):
        for x in range(2):
            self.same(run_lost(LOST, LOST_CODE, x, ()), run_cut(LOST, LOST_CODE, x, ()))
        self.same(run_lost(BOOK, CODE, 2, ()), ((0, 1), 2, ((0, 0), (1, 1))))

    def test_only_what_was_written_since_the_last_cut(self):
        self.same(run_lost(BOOK, CODE, 2, (3,)), ((0, 1), 2, ((1, 1),)))
        self.same(run_lost(BOOK, CODE, 0, (5,)), ((0, 1, 0, 1, 0, 2), 0, (
            (0, 0), (1, 0), (0, 0), (2, 0))))
        self.same(run_lost(BOOK, CODE, 0, (5, 5)), ((0, 1, 0, 1, 0, 1, 0, 2), 0, (
            (0, 0), (1, 0), (0, 0), (2, 0))))
        self.same(run_lost(BOOK, CODE, 0, (7,)), ((0, 1, 0, 2), 0, ((2, 0),)))

    def test_a_cut_of_no_deeds(self):
        self.same(run_lost(BOOK, CODE, 2, (0,) * 20), ((0, 1), 2, ((0, 0), (1, 1))))
        self.same(run_lost(BOOK, CODE, 2, (3, 0, 0)), ((0, 1), 2, ((1, 1),)))

    def test_no_code_from_there(self):
        # At 1 the faults can still be told apart, at 2 not: there the run ends at once.
        for many, due in ((3, 0), (4, 0), (5, 0), (6, None), (7, None), (8, 0)):
            self.same(run_lost(LOST, LOST_CODE, 0, (many, 0, 5000))[1], due)
        self.same(run_lost(LOST, LOST_CODE, 0, (6, 0, 5000)), ((0, 1, 0, 2), None, ()))

    def test_a_cut_behind_the_cure_is_not_looked_at(self):
        self.same(run_lost(BOOK, CODE, 2, (4, 0)), ((0, 1), 2, ((0, 0), (1, 1))))

    def test_reckoned_plainly(self):
        chance = random.Random(196)
        told = [0, 0]
        for book in random_books(1500, 197, 0.6):
            bearing = bears(book)
            for code in right_codes(chance, book):
                for x in list(range(book[0][0])) * (1 if bearing else 12):
                    cuts = tuple(chance.randint(0, 7) for _ in range(chance.randint(0, 5)))
                    due, _ = plain_cut(book, code, x, cuts, by_nothing(book))
                    self.same(run_lost(book, code, x, cuts), due)
                    self.assertIs(safe(book, x, due[0]), True)
                    told[due[1] is None] += 1
                    if bearing:
                        self.assertIn(due[1], book[0][2][x])
        self.assertGreater(min(told), 10)

    def test_a_book_that_bears_is_cured_behind_all_cuts(self):
        chance = random.Random(198)
        tried = 0
        for book in random_books(200, 199, 0.6):
            if bears(book):
                for code in right_codes(chance, book)[:2]:
                    for x in range(book[0][0]):
                        for one in range(8):
                            for two in range(5):
                                found = run_lost(book, code, x, (one, two))
                                self.assertIn(found[1], book[0][2][x])
                                tried += 1
        self.assertGreater(tried, 1000)

    def test_refusals_in_order(self):
        self.refuses_wrong_books(run_lost, None, 9, None)
        for thing, what in NO_CODES:
            self.refused(BadCode, what, run_lost, BOOK, thing, 9, None)
        self.refuses_wrong_faults(run_lost, (BOOK, (CURE,)), (None,))
        for cuts, what in NO_CUTS:
            self.refused(BadCuts, what, run_lost, BOOK, (CURE,), 0, cuts)
        for code in ((CURE,), CODE[:3], (("cure", (2,), 0),)):
            self.refused(NotRight, 0, run_lost, BOOK, code, 0, (0, 5000))


if __name__ == "__main__":
    unittest.main()
