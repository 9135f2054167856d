"""[15] codes, [16] how they run, [17] whether they are right."""

import random
import unittest

from tests.helping import (
    ANYTHING, BOOK, CODE, CURE, CURES, MOVES, NOT_BELOW_THREE, NO_CODES, NO_RIGS, NO_ROWS,
    NO_STARTS, RIG, SIGNS, Strict, lots_of, random_starts, replaced, some_code,
)
from waryrig.codes import code_right, is_code, made_code, run_code
from waryrig.ends import home
from waryrig.errors import BadBook, BadCode, BadFault, BadRig, BadStart
from waryrig.free import barring
from waryrig.lots import agreeing
from waryrig.rigs import neighbours

LOOK = ("look", (), ((0, 0),))
HOME = ((0, 1, 2), 0)
RIGHT_CODES = (
    (CURE,), (("cure", (0, 1, 2, 2, 1), 2),), (CURE, LOOK), (CURE, CURE), CODE,
    (CURE, LOOK, ("look", (2,), ((0, 0), (1, 1), (9, 0)))),
    (CURE, ("look", (1, 1), tuple((sign, 0) for sign in range(10)))),
    (CURE, LOOK, ("cure", (0,), 1)), (CURE, ("look", (0,), ((9, 0),))),
)


def plain_run(book, code, start, x):
    """Reckon run_code as its words say, and tell what is possible from all settings."""
    rig = book[0]
    walk = (start[1],)
    row = code[-1]
    while True:
        for g in row[1]:
            joined = dict(neighbours(rig, walk[-1]))
            if g not in joined:
                return (walk, ("nomove", g))
            lot = barring(book, agreeing(rig, start[0], x, walk), joined[g])
            if lot is not None:
                return (walk, ("barred", lot))
            walk += (g,)
        if row[0] == "cure":
            return (walk, ("cure", row[2]))
        sign = rig[3][walk[-1]][x]
        if sign not in dict(row[2]):
            return (walk, ("nosign", sign))
        row = code[dict(row[2])[sign]]


class Codes(Strict):

    def test_right_ones_are_returned_as_they_were_handed_in(self):
        for code in RIGHT_CODES:
            self.assertIs(made_code(RIG, code), code)
            self.assertIs(made_code(rig=RIG, thing=code), code)
            self.assertIs(is_code(RIG, code), True)
            self.assertIs(is_code(rig=RIG, thing=code), True)

    def test_that_settings_are_joined_is_not_asked(self):
        self.assertIs(is_code((1, 1, ((0,),), ((0,),) * 40, ()), (("cure", (39, 39, 7), 0),)), True)

    def test_wrong_ones(self):
        for thing, what in NO_CODES:
            with self.subTest(repr(thing)[:100]):
                self.refused(BadCode, what, made_code, RIG, thing)
                self.assertIs(is_code(RIG, thing), False)

    def test_the_first_wrong_row_is_told(self):
        for row in NO_ROWS:
            self.refused(BadCode, 1, made_code, RIG, (CURE, row, None, CURE))
        self.refused(BadCode, 0, made_code, RIG, (LOOK, CURE))

    def test_its_own_number_and_a_later_one(self):
        for number in range(1, 4):
            for row in range(6):
                code = (CURE,) * number + (("look", (), ((3, row),)),) + (CURE,) * 2
                if row < number:
                    self.assertIs(made_code(RIG, code), code)
                else:
                    self.refused(BadCode, number, made_code, RIG, code)

    def test_remedies_signs_and_settings_of_the_rig(self):
        self.assertIs(is_code(RIG, (("cure", (), 2),)), True)
        self.assertIs(is_code(RIG, (("cure", (), 3),)), False)
        self.assertIs(is_code(RIG, (("cure", (2,), 0),)), True)
        self.assertIs(is_code(RIG, (("cure", (3,), 0),)), False)
        self.assertIs(is_code(RIG, (CURE, ("look", (), ((9, 0),)))), True)
        self.assertIs(is_code(RIG, (CURE, ("look", (), ((10, 0),)))), False)

    def test_ways_of_two_thousand_settings_and_no_more(self):
        for many, right in ((2000, True), (2001, False)):
            self.assertIs(is_code(RIG, (("cure", (0,) * many, 0),)), right)
            self.assertIs(is_code(RIG, (CURE, ("look", (0,) * many, ((0, 0),)))), right)

    def test_two_thousand_rows_and_no_more(self):
        self.assertIs(is_code(RIG, (CURE,) * 2000), True)
        self.refused(BadCode, 1999, made_code, RIG, (CURE,) * 1999 + (None,))
        self.refused(BadCode, -1, made_code, RIG, (CURE,) * 2001)
        self.assertIs(is_code(RIG, (CURE,) * 2001), False)

    def test_no_rig_is_told_ahead_of_no_code(self):
        for thing, where in NO_RIGS:
            for code in ((), (CURE,), None):
                self.refused(BadRig, where, made_code, thing, code)
                self.assertIs(is_code(thing, code), False)

    def test_anything_is_judged(self):
        for thing in ANYTHING:
            with self.subTest(repr(thing)[:100]):
                self.assertIs(is_code(RIG, thing), False)
                self.assertIs(is_code(thing, (CURE,)), False)
                self.assertIs(is_code(RIG, (thing,)), False)
                self.assertIs(is_code(RIG, ((thing, (), 0),)), False)
                settings = thing in ((), (0,), (0, 1), (0, 1, 2)) or repr(thing) == repr((0,) * 5)
                self.assertIs(is_code(RIG, (("cure", thing, 0),)), settings)
                self.assertIs(is_code(RIG, (("cure", (), thing),)), repr(thing) == "0")
                self.assertIs(is_code(RIG, (CURE, ("look", (), thing))), False)
                self.assertIs(is_code(RIG, (CURE, ("look", (), (thing,)))), False)


class Runs(Strict):

    def test_the_example(self):
        self.same(run_code(BOOK, CODE, HOME, 0), ((0, 1, 0, 2), ("cure", 0)))
        self.same(run_code(BOOK, CODE, HOME, 1), ((0, 1, 0, 2), ("cure", 1)))
        self.same(run_code(book=BOOK, code=CODE, start=HOME, x=2), ((0, 1), ("cure", 2)))

    def test_it_begins_at_the_last_row(self):
        self.same(run_code(BOOK, (CURE, ("cure", (1,), 2), CURE), HOME, 0), ((0,), ("cure", 0)))
        self.same(run_code(BOOK, (CURE, ("cure", (1,), 2)), HOME, 0), ((0, 1), ("cure", 2)))

    def test_the_walk_begins_with_the_setting_of_the_start(self):
        self.same(run_code(BOOK, (("cure", (), 1),), ((2,), 2), 2), ((2,), ("cure", 1)))
        self.same(run_code(BOOK, (("cure", (0, 1), 1),), ((0, 1), 2), 1), ((2, 0, 1), ("cure", 1)))

    def test_no_move(self):
        for x in range(3):
            code = (("cure", (0, 2), 0),)
            self.same(run_code(BOOK, code, HOME, x), ((0,), ("nomove", 0)))
            code = (("cure", (1, 2, 0), 0),)
            self.same(run_code(BOOK, code, HOME, x), ((0, 1), ("nomove", 2)))
            code = (CURE, ("look", (1, 1), ((0, 0),)))
            self.same(run_code(BOOK, code, HOME, x), ((0, 1), ("nomove", 1)))
        self.same(run_code(BOOK, (("cure", (1,), 0),), ((2,), 2), 2), ((2,), ("nomove", 1)))

    def test_barred_with_the_first_lot(self):
        book = (RIG, ((), ((0, 1, 2), (0, 2), (1,), (2,))))
        code = (("cure", (2,), 0),)
        self.same(run_code(book, code, HOME, 0), ((0,), ("barred", (0, 1, 2))))
        self.same(run_code(book, code, ((0, 2), 0), 0), ((0,), ("barred", (0, 2))))
        self.same(run_code(book, code, ((1, 2), 0), 2), ((0,), ("barred", (1,))))
        self.same(run_code(book, code, ((2,), 0), 2), ((0,), ("barred", (2,))))
        self.same(run_code(book, code, ((0,), 0), 0), ((0, 2), ("cure", 0)))
        code = (CURE, ("look", (1, 0, 2), ((0, 0),)))
        self.same(run_code(book, code, HOME, 0), ((0, 1, 0), ("barred", (1,))))

    def test_no_branch_for_the_sign(self):
        code = (CURE, ("look", (1,), ((0, 0), (2, 0))))
        self.same(run_code(BOOK, code, HOME, 0), ((0, 1), ("cure", 0)))
        self.same(run_code(BOOK, code, HOME, 2), ((0, 1), ("nosign", 1)))
        code = (CURE, ("look", (), ((1, 0),)))
        self.same(run_code(BOOK, code, HOME, 2), ((0,), ("nosign", 0)))

    def test_what_was_seen_where_no_row_looks(self):
        code = (("cure", (1, 0, 2), 0),)
        for x in (0, 1):
            self.same(run_code(BOOK, code, HOME, x), ((0, 1, 0, 2), ("cure", 0)))
        self.same(run_code(BOOK, code, HOME, 2), ((0, 1, 0), ("barred", (2,))))
        # Only at the setting of the start is fault 2 ruled out.
        self.same(run_code(BOOK, (("cure", (0, 2), 0),), ((0, 1, 2), 1), 1)[1], ("cure", 0))
        self.same(run_code(BOOK, (("cure", (0, 2), 0),), ((0, 1, 2), 1), 2)[1], ("barred", (2,)))

    def test_what_is_possible_are_faults_of_the_lot_alone(self):
        code = (("cure", (2,), 0),)
        self.same(run_code(BOOK, code, ((0, 1), 0), 0), ((0, 2), ("cure", 0)))
        self.same(run_code(BOOK, code, ((0, 2), 0), 0), ((0,), ("barred", (2,))))

    def test_several_branches_to_one_row(self):
        code = (CURE, ("look", (1,), ((0, 0), (1, 0))))
        for x in range(3):
            self.same(run_code(BOOK, code, HOME, x), ((0, 1), ("cure", 0)))
        code = (CURE, ("cure", (0,), 1), ("look", (), ((0, 1), (1, 1), (2, 0))), LOOK,
                ("look", (1,), ((0, 2), (1, 2))))
        for x in range(3):
            self.same(run_code(BOOK, code, HOME, x), ((0, 1, 0), ("cure", 1)))

    def test_longer_than_any_walk(self):
        code = (("cure", (1, 0) * 1000, 2),) + tuple(
            ("look", (1, 0) * 1000, ((0, number),)) for number in range(3))
        self.same(run_code(BOOK, code, HOME, 2), ((0,) + (1, 0) * 4000, ("cure", 2)))

    def test_the_longest_run(self):
        code = (CURE,) + tuple(("look", (1, 0) * 1000, ((0, number),)) for number in range(1999))
        walk, last = run_code(BOOK, code, HOME, 0)
        self.assertEqual(len(walk), 1 + 1999 * 2000)
        self.same(last, ("cure", 0))

    def test_reckoned_plainly(self):
        chance = random.Random(41)
        told = {}
        for book, start in random_starts(700, 42):
            code = some_code(chance, book[0])
            self.assertIs(is_code(book[0], code), True)
            right = True
            for x in start[0]:
                due = plain_run(book, code, start, x)
                self.same(run_code(book, code, start, x), due)
                told[due[1][0]] = told.get(due[1][0], 0) + (len(due[0]) > 1)
                right = right and due[1][0] == "cure" and due[1][1] in book[0][2][x]
            self.assertIs(code_right(book, code, start), right)
        self.assertEqual(sorted(told), ["barred", "cure", "nomove", "nosign"])
        self.assertGreater(min(told.values()), 10)

    def test_refusals_in_order(self):
        self.refused(BadBook, -1, run_code, None, (), None, 9)
        self.refused(BadBook, -2, run_code, (RIG, ()), (), None, 9)
        self.refused(BadBook, 1, run_code, (RIG, ((), None)), (), None, 9)
        for thing, where in NO_RIGS:
            self.refused(BadRig, where, run_code, (thing, ()), (), None, 9)
        for thing, what in NO_CODES:
            self.refused(BadCode, what, run_code, BOOK, thing, None, 9)
        for thing in NO_STARTS:
            self.refused(BadStart, 0, run_code, BOOK, CODE, thing, 9)
        for x in NOT_BELOW_THREE:
            self.refused(BadFault, x, run_code, BOOK, CODE, HOME, x)

    def test_a_fault_that_is_not_in_the_lot_of_the_start(self):
        for lot in lots_of(3)[1:]:
            for x in range(3):
                if x not in lot:
                    self.refused(BadFault, x, run_code, BOOK, CODE, (lot, 0), x)
        self.refused(BadFault, True, run_code, BOOK, CODE, ((1,), 0), True)


class Right(Strict):

    def test_the_example(self):
        self.assertIs(code_right(BOOK, CODE, HOME), True)
        self.assertIs(code_right(book=BOOK, code=CODE, start=HOME), True)

    def test_under_some_faults_and_not_under_all(self):
        for x in range(3):
            code = (("cure", (), x),)
            self.assertIs(code_right(BOOK, code, HOME), False)
            for lot in lots_of(3)[1:]:
                self.assertIs(code_right(BOOK, code, (lot, 0)), lot == (x,))

    def test_a_remedy_that_cures_several(self):
        book = ((3, 3, ((0, 1), (1,), (1, 2)), SIGNS, MOVES), BOOK[1])
        for r in range(3):
            self.assertIs(code_right(book, (("cure", (), r),), HOME), r == 1)

    def test_a_fault_that_nothing_cures(self):
        book = (replaced(RIG, 2, ((0,), (), (0,))), BOOK[1])
        self.assertIs(code_right(book, (CURE,), HOME), False)
        self.assertIs(code_right(book, (CURE,), ((0, 2), 0)), True)

    def test_each_way_to_end_without_a_cure(self):
        book = ((3, 1, ((0,),) * 3, SIGNS, MOVES), BOOK[1])
        for code, right in (
            ((CURE,), True),
            ((("cure", (1,), 0),), True),
            ((("cure", (0,), 0),), False),
            ((("cure", (1, 2), 0),), False),
            ((("cure", (2,), 0),), False),
            ((("cure", (1, 0, 2), 0),), False),
            ((CURE, ("look", (1,), ((0, 0),))), False),
            ((CURE, ("look", (1,), ((1, 0),))), False),
            ((CURE, ("look", (1,), ((0, 0), (1, 0)))), True),
        ):
            self.assertIs(code_right(book, code, HOME), right)

    def test_another_start(self):
        self.assertIs(code_right(BOOK, CODE, ((0, 1, 2), 1)), False)
        self.assertIs(code_right(BOOK, CODE, ((0, 2), 0)), True)
        self.assertIs(code_right(BOOK, (("cure", (), 0), ("cure", (), 1), CODE[2]), HOME), False)

    def test_rows_that_are_spoilt(self):
        for number, row in enumerate(CODE):
            for part in (0, 1, 2):
                for worse in (None, (), 3, "cure", "look", (9,), ((0, 9),)):
                    if worse != row[part]:
                        code = replaced(CODE, number, replaced(row, part, worse))
                        self.assertIs(code_right(BOOK, code, HOME), False)

    def test_what_is_no_book_no_code_no_start(self):
        for thing in (None, RIG, (RIG, ()), (RIG, ((), None)), (replaced(RIG, 0, 4), BOOK[1])):
            self.assertIs(code_right(thing, CODE, HOME), False)
        for thing, _ in NO_CODES:
            self.assertIs(code_right(BOOK, thing, ((0,), 0)), False)
        for thing in NO_STARTS:
            self.assertIs(code_right(BOOK, CODE, thing), False)
        for thing in ANYTHING:
            self.assertIs(code_right(thing, CODE, HOME), False)
            self.assertIs(code_right(BOOK, thing, HOME), False)
            self.assertIs(code_right(BOOK, CODE, thing), False)
            self.assertIs(code_right(thing, thing, thing), False)

    def test_of_home(self):
        book = ((3, 3, CURES, ((0, 1, 2),), ()), ())
        code = (("cure", (), 0), ("cure", (), 1), ("cure", (), 2),
                ("look", (), ((0, 0), (1, 1), (2, 2))))
        self.assertIs(code_right(book, code, home(book[0])), True)
        self.assertIs(code_right(book, code[:3], home(book[0])), False)


if __name__ == "__main__":
    unittest.main()
