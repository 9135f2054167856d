"""[48] dark settings, [49] met in the dark."""

import itertools
import random
import unittest

from tests.helping import (
    BOOK, CURES, MOVES, NOT_BELOW_THREE, NO_NUMBERS, NO_TUPLES, RIG, SIGNS, Strict, many_lots,
    random_books, replaced,
)
from waryrig.dark import dark_paper, darkened, run_dark, strength
from waryrig.ends import home
from waryrig.errors import BadNumber, BadSetting, TooMany
from waryrig.kernel import dark_right
from waryrig.lots import agreeing, all_faults, one_sign, remedies_for
from waryrig.papers import stuck
from waryrig.regions import region, way
from waryrig.solver import solvable
from waryrig.walks import safe

NOTHING = (0, 0, 0)
# Each setting but home parts the faults, so some of them may be dark.
WIDE = ((2, 2, ((0,), (1,)), ((0, 0),) + ((0, 1),) * 3, ((0, 1), (0, 2), (0, 3))), ((),) * 3)


def of_settings(many):
    """Return a book of so many settings, of which only the last one parts."""
    signs = ((0, 0),) * (many - 1) + ((0, 1),)
    return ((2, 2, ((0,), (1,)), signs, ((0, many - 1),)), ((),))


def plain_dark_paper(book, r):
    """Reckon dark_paper as its words say."""
    many = len(book[0][3])
    for settings in itertools.combinations(range(many), min(r, many)):
        lot = stuck(darkened(book, settings), home(book[0]))
        if lot is not None:
            return lot, settings
    return None


def plain_run(book, settings, x):
    """Reckon run_dark as its words say: what is possible is asked anew of all that was seen."""
    rig = book[0]
    walk = (0,)
    while True:
        bright = tuple(g for g in walk if g not in settings)
        lot = agreeing(rig, all_faults(rig), x, bright)
        if remedies_for(rig, lot):
            return walk, remedies_for(rig, lot)[0]
        known = [g for g in walk if g in settings]
        ways = [way(book, lot, walk[-1], h) for h in region(book, lot, walk[-1])
                if h not in known and not one_sign(rig, lot, h)]
        if not ways:
            return walk, None
        walk += min(ways, key=lambda steps: (len(steps), steps[-1]))[1:]


class Darkened(Strict):

    def test_each_fault_shows_0_there(self):
        self.same(darkened(BOOK, (1,)), (replaced(RIG, 3, (NOTHING, NOTHING, (0, 1, 0))), BOOK[1]))
        self.same(darkened(book=BOOK, settings=(2,)),
                  (replaced(RIG, 3, (NOTHING, (0, 0, 1), NOTHING)), BOOK[1]))
        bright = (replaced(RIG, 3, ((9, 8, 7),) * 3), BOOK[1])
        self.same(darkened(bright, (0, 2)),
                  (replaced(RIG, 3, (NOTHING, (9, 8, 7), NOTHING)), BOOK[1]))

    def test_in_any_order_and_some_twice(self):
        due = (replaced(RIG, 3, (NOTHING, NOTHING, NOTHING)), BOOK[1])
        for settings in ((1, 2), (2, 1), (2, 1, 2, 1), (0, 1, 2), (2, 2, 1, 0, 0)):
            self.same(darkened(BOOK, settings), due)

    def test_none(self):
        self.same(darkened(BOOK, ()), BOOK)

    def test_of_any_number_of_settings(self):
        book = of_settings(40)
        self.assertIs(solvable(book), True)
        self.assertIs(solvable(darkened(book, (39,))), False)
        self.assertIs(solvable(darkened(book, tuple(range(39)))), True)

    def test_refusals_in_order(self):
        self.refuses_wrong_books(darkened, None)
        for settings in NO_TUPLES:
            self.refused(BadSetting, -1, darkened, BOOK, settings)
        for g in NOT_BELOW_THREE:
            self.refused(BadSetting, g, darkened, BOOK, (g,))
            self.refused(BadSetting, g, darkened, BOOK, (2, 0, g, None))


class DarkPapers(Strict):

    def test_the_example(self):
        self.same(dark_paper(BOOK, 0), None)
        self.same(dark_paper(BOOK, 1), ((0, 1, 2), (1,)))
        self.same(dark_paper(book=BOOK, r=1), ((0, 1, 2), (1,)))

    def test_the_first_of_the_ascending_tuples(self):
        self.same(dark_paper(BOOK, 2), ((0, 1, 2), (0, 1)))
        self.same(dark_paper(WIDE, 2), None)
        self.same(dark_paper(WIDE, 3), ((0, 1), (1, 2, 3)))
        only = (replaced(RIG, 3, (NOTHING, NOTHING, (0, 1, 2))), ((), ()))
        self.same(dark_paper(only, 1), ((0, 1, 2), (2,)))
        self.same(dark_paper(only, 2), ((0, 1, 2), (0, 2)))

    def test_home_among_them(self):
        book = ((2, 2, ((0,), (1,)), ((0, 1), (0, 0)), ((0, 1),)), ((),))
        self.same(dark_paper(book, 1), ((0, 1), (0,)))
        self.same(dark_paper(book, 2), ((0, 1), (0, 1)))

    def test_r_of_0_is_the_book_itself(self):
        book = (RIG, ((), ((0,), (2,))))
        self.same(dark_paper(book, 0), ((0, 1), ()))

    def test_fewer_settings_than_r(self):
        for many in (1, 2, 3):
            book = of_settings(many) if many > 1 else ((2, 2, ((0,), (1,)), ((0, 1),), ()), ())
            for r in range(many, 4):
                self.same(dark_paper(book, r), ((0, 1), tuple(range(many))))
        done = (replaced(RIG, 2, ((0,),) * 3), BOOK[1])
        self.same(dark_paper(done, 3), None)
        one = ((1, 1, ((0,),), ((0,),), ()), ())
        for r in range(4):
            self.same(dark_paper(one, r), None)

    def test_dark_right_lets_it(self):
        told = set()
        for book in random_books(300, 211, 0.6):
            for r in range(4):
                paper = dark_paper(book, r)
                self.same(paper, plain_dark_paper(book, r))
                if paper is not None:
                    self.assertIs(dark_right(book, r, paper), True)
                told.add((r, paper is None))
        self.assertEqual(len(told), 8)

    def test_none_that_dark_right_lets_where_there_is_none(self):
        for book in random_books(60, 212, 0.7):
            many = len(book[0][3])
            for r in range(4):
                if dark_paper(book, r) is None:
                    for settings in itertools.combinations(range(many), min(r, many)):
                        paper = (all_faults(book[0]), settings)
                        self.assertIs(dark_right(book, r, paper), False)

    def test_sixteen_settings_and_seventeen(self):
        self.same(dark_paper(of_settings(16), 1), ((0, 1), (15,)))
        self.same(dark_paper(of_settings(16), 3), ((0, 1), (0, 1, 15)))
        self.refused(TooMany, 17, dark_paper, of_settings(17), 1)
        self.refused(TooMany, 40, dark_paper, of_settings(40), 0)

    def test_great_books(self):
        pairs = tuple(itertools.combinations(range(16), 2))
        signs = tuple(tuple((x * (g + 1)) % 10 for x in range(24)) for g in range(16))
        rig = (24, 16, tuple((x % 16,) for x in range(24)), signs, pairs)
        bars = tuple(many_lots(200) if high % 3 == 0 else () for _, high in pairs)
        due = plain_dark_paper((rig, bars), 1)
        self.same(dark_paper((rig, bars), 1), due)
        self.assertIn(strength((rig, bars)), range(-1, 4))

    def test_refusals_in_order(self):
        self.refuses_wrong_books(dark_paper, 9)
        for r in NO_NUMBERS + (-1, 4, 5, 10 ** 30):
            self.refused(BadNumber, r, dark_paper, BOOK, r)
            self.refused(BadNumber, r, dark_paper, of_settings(17), r)


class Strength(Strict):

    def test_the_example(self):
        self.same(strength(BOOK), 0)
        self.same(strength(book=BOOK), 0)

    def test_of_a_stuck_book(self):
        self.same(strength((RIG, ((), ((0,), (2,))))), -1)
        self.same(strength((replaced(RIG, 2, ((0,), (1,), ())), BOOK[1])), -1)

    def test_up_to_3(self):
        self.same(strength(WIDE), 2)
        for many in range(1, 8):
            signs = ((0, 0),) + ((0, 1),) * many
            rig = (2, 2, ((0,), (1,)), signs, tuple((0, g) for g in range(1, many + 1)))
            self.same(strength((rig, ((),) * many)), min(many - 1, 3))
        self.same(strength((replaced(RIG, 2, ((0,),) * 3), BOOK[1])), 3)
        self.same(strength(((1, 1, ((0,),), ((0,),), ()), ())), 3)

    def test_the_greatest_r_without_a_paper(self):
        told = set()
        for book in random_books(300, 213, 0.6):
            found = [r for r in range(4) if plain_dark_paper(book, r) is None]
            due = max(found, default=-1)
            self.same(strength(book), due)
            self.assertEqual(found, list(range(due + 1)))
            told.add(due)
        self.assertTrue({-1, 0, 1, 3} <= told)

    def test_sixteen_settings_and_seventeen(self):
        self.same(strength(of_settings(16)), 0)
        self.refused(TooMany, 17, strength, of_settings(17))
        self.refused(TooMany, 40, strength, of_settings(40))

    def test_refusals(self):
        self.refuses_wrong_books(strength)


class Runs(Strict):

    def test_the_examples(self):
        self.same(run_dark(BOOK, (2,), 0), ((0, 1, 0, 2), None))
        self.same(run_dark(book=BOOK, settings=(2,), x=2), ((0, 1), 2))

    def test_none_dark(self):
        for x in range(3):
            self.same(run_dark(BOOK, (), x), (((0, 1, 0, 2), (0, 1, 0, 2), (0, 1))[x], x))

    def test_all_dark(self):
        for settings in ((0, 1, 2), (2, 1, 0), (1, 2)):
            for x in range(3):
                # Setting 2 is not come to, as nothing rules fault 2 out.
                self.same(run_dark(BOOK, settings, x), ((0, 1), None))
        for x in range(2):
            self.same(run_dark(WIDE, (3, 2, 1), x), ((0, 1, 0, 2, 0, 3), None))
            self.same(run_dark(WIDE, (0, 1, 2, 3) * 2, x), ((0, 1, 0, 2, 0, 3), None))

    def test_one_remedy_for_all(self):
        book = (replaced(RIG, 2, ((0, 1), (1,), (1, 2))), BOOK[1])
        for settings in ((), (0,), (0, 1, 2)):
            self.same(run_dark(book, settings, 2), ((0,), 1))

    def test_it_goes_on_to_another_one(self):
        for x in range(2):
            self.same(run_dark(WIDE, (1,), x), ((0, 1, 0, 2), x))
            self.same(run_dark(WIDE, (2, 1), x), ((0, 1, 0, 2, 0, 3), x))
            self.same(run_dark(WIDE, (2, 3), x), ((0, 1), x))

    def test_home_dark(self):
        rig = (3, 3, CURES, ((0, 1, 2), (0, 1, 1), (0, 0, 1)), MOVES)
        for x in range(3):
            self.same(run_dark((rig, ((), ())), (), x), ((0,), x))
        self.same(run_dark((rig, ((), ())), (0,), 0), ((0, 1), 0))
        self.same(run_dark((rig, ((), ())), (0,), 2), ((0, 1, 0, 2), 2))

    def test_a_dark_one_on_the_way(self):
        # Setting 1 is found dark; on the way to 2 it is come to again.
        rig = (2, 2, ((0,), (1,)), ((0, 0), (0, 1), (0, 1)), ((0, 1), (1, 2)))
        for x in range(2):
            self.same(run_dark((rig, ((), ())), (1,), x), ((0, 1, 2), x))
            self.same(run_dark((rig, ((), ())), (2,), x), ((0, 1), x))
        # What it would have shown is not known behind it: so the move stays barred.
        line = (replaced(RIG, 4, ((0, 1), (1, 2))), ((), ((2,),)))
        self.same(run_dark(line, (1,), 0), ((0, 1), None))
        self.same(run_dark(line, (), 0), ((0, 1, 2), 0))

    def test_a_sign_of_0_is_not_taken_for_darkness(self):
        # Under fault 1 the dark setting would show 1; it is not ruled out there.
        rig = replaced(RIG, 3, SIGNS[:2] + ((0, 1, 1),))
        self.same(run_dark((rig, ((), ())), (1,), 1), ((0, 1, 0, 2), None))
        self.same(run_dark((rig, ((), ())), (1,), 0), ((0, 1, 0, 2), 0))

    def test_reckoned_plainly(self):
        chance = random.Random(214)
        told = [0, 0]
        for book in random_books(500, 215, 0.5):
            many = len(book[0][3])
            settings = tuple(chance.randrange(many) for _ in range(chance.randint(0, 3)))
            for x in range(book[0][0]):
                due = plain_run(book, settings, x)
                self.same(run_dark(book, settings, x), due)
                self.assertIs(safe(book, x, due[0]), True)
                told[due[1] is None] += len(due[0]) > 1
        self.assertGreater(min(told), 50)

    def test_up_to_the_strength_the_remedy_cures(self):
        tried = 0
        for book in random_books(250, 216, 0.6):
            many = len(book[0][3])
            for r in range(strength(book) + 1):
                for settings in itertools.combinations(range(many), min(r, many)):
                    for x in range(book[0][0]):
                        self.assertIn(run_dark(book, settings, x)[1], book[0][2][x])
                        tried += r > 0
        self.assertGreater(tried, 1000)

    def test_more_settings_than_dark_paper_is_told_for(self):
        self.same(run_dark(of_settings(40), (7, 39), 1), ((0, 39), None))
        self.same(run_dark(of_settings(40), (7, 38), 1), ((0, 39), 1))

    def test_refusals_in_order(self):
        self.refuses_wrong_books(run_dark, None, 9)
        for settings in NO_TUPLES:
            self.refused(BadSetting, -1, run_dark, BOOK, settings, 9)
        for g in NOT_BELOW_THREE:
            self.refused(BadSetting, g, run_dark, BOOK, (g,), 9)
            self.refused(BadSetting, g, run_dark, BOOK, (1, 1, g, None), 9)
        self.refuses_wrong_faults(run_dark, (BOOK, (2, 2)))


if __name__ == "__main__":
    unittest.main()
