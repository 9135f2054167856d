"""[1] rigs and the marks of their numbers, [2] neighbours."""

import itertools
import unittest

from tests.helping import (
    ANYTHING, BOOK, NO_NUMBERS, NO_RIGS, NO_TUPLES, NOT_BELOW_THREE, NOT_BELOW_TWO, RIG,
    Strict, greatest_rig, random_books, replaced,
)
from waryrig.errors import BadFault, BadMove, BadRig, BadSetting
from waryrig.free import free
from waryrig.lots import agreeing
from waryrig.rigs import is_rig, made_rig, neighbours

LEAST = (1, 1, ((),), ((0,),), ())
FIVE = (
    2, 3, ((), (0, 2)), ((0, 9), (9, 0), (4, 4), (0, 0), (1, 2)),
    ((0, 1), (0, 4), (1, 2), (1, 4), (3, 4)),
)


class RightRigs(Strict):

    def right(self, rig):
        self.assertIs(made_rig(rig), rig)
        self.assertIs(made_rig(thing=rig), rig)
        self.assertIs(is_rig(rig), True)
        self.assertIs(is_rig(thing=rig), True)

    def test_a_right_rig_is_returned_as_it_was_handed_in(self):
        self.right(RIG)
        self.right(LEAST)
        self.right(FIVE)

    def test_the_greatest_rig(self):
        rig = greatest_rig()
        self.assertEqual([len(part) for part in rig[2:]], [24, 40, 200])
        self.right(rig)

    def test_cures(self):
        for cures in itertools.product(((), (0,), (1,), (2,), (0, 1), (0, 2), (0, 1, 2)), repeat=2):
            self.right(replaced(FIVE, 2, cures))

    def test_each_sign(self):
        for sign in range(10):
            self.right(replaced(LEAST, 3, ((sign,),)))

    def test_each_count(self):
        for n in range(1, 25):
            self.right((n, 1, ((),) * n, ((0,) * n,), ()))
        for q in range(1, 17):
            self.right((1, q, ((q - 1,),), ((0,),), ()))
        for settings in range(1, 41):
            self.right((1, 1, ((),), ((0,),) * settings, ()))

    def test_settings_need_not_be_joined(self):
        self.right(replaced(FIVE, 4, ()))
        self.right(replaced(FIVE, 4, ((3, 4),)))


class WrongRigs(Strict):

    def wrong(self, thing, where):
        with self.subTest(repr(thing)[:200]):
            self.refused(BadRig, where, made_rig, thing)
            self.assertIs(is_rig(thing), False)

    def test_no_tuple_of_five(self):
        for thing in NO_TUPLES + ((), (0,), RIG[:4], RIG + ((),), (RIG,), "abcde", [*RIG]):
            self.wrong(thing, (-1,))

    def test_n(self):
        for n in NO_NUMBERS + (0, -1, 25, 26, 10 ** 40, -10 ** 40):
            self.wrong(replaced(RIG, 0, n), (0,))
        self.wrong((True,) + LEAST[1:], (0,))
        self.wrong((25, 1, ((),) * 25, ((0,) * 25,), ()), (0,))
        self.wrong((0, 1, (), ((),), ()), (0,))

    def test_q(self):
        for q in NO_NUMBERS + (0, -1, 17, 18, 10 ** 40, -10 ** 40):
            self.wrong(replaced(RIG, 1, q), (1,))
        self.wrong(replaced(LEAST, 1, True), (1,))
        self.wrong(replaced(greatest_rig(), 1, 17), (1,))

    def test_cures_that_are_no_tuple_of_n(self):
        for cures in NO_TUPLES + ((), RIG[2][:2], RIG[2] + ((0,),), [*RIG[2]]):
            self.wrong(replaced(RIG, 2, cures), (2, -1))

    def test_an_entry_of_the_cures(self):
        entries = NO_TUPLES + (
            (3,), (-1,), (0, 3), (0, 0), (1, 0), (0, 2, 1), (0, 1, 1), (True,), (False,),
            (0, True), ("0",), (None,), ((0,),), (0, 1, 2, 3), [0],
        )
        for x in range(3):
            for entry in entries:
                self.wrong(replaced(RIG, 2, replaced(RIG[2], x, entry)), (2, x))
        self.wrong(replaced(greatest_rig(), 2, ((),) * 23 + ((16,),)), (2, 23))

    def test_signs_that_are_no_tuple_of_1_to_40(self):
        for signs in NO_TUPLES + ((), [*RIG[3]]):
            self.wrong(replaced(RIG, 3, signs), (3, -1))
        for many in (41, 42, 100):
            self.wrong(replaced(LEAST, 3, ((0,),) * many), (3, -1))

    def test_an_entry_of_the_signs(self):
        entries = NO_TUPLES + (
            (), (0, 0), (0,) * 4, (10, 0, 0), (0, -1, 0), (0, 0, 10), (True, 0, 0), (0, False, 0),
            (0, 0, True), (0, None, 0), ("0", 0, 0), (0, 0, (0,)), "000", [0, 0, 0],
        )
        for g in range(3):
            for entry in entries:
                self.wrong(replaced(RIG, 3, replaced(RIG[3], g, entry)), (3, g))
        signs = greatest_rig()[3]
        self.wrong(replaced(greatest_rig(), 3, replaced(signs, 39, signs[39] + (0,))), (3, 39))

    def test_moves_that_are_no_tuple_or_too_many(self):
        for moves in NO_TUPLES + ([*RIG[4]],):
            self.wrong(replaced(RIG, 4, moves), (4, -1))
        pairs = tuple(itertools.combinations(range(40), 2))
        for many in (201, 202, 780):
            self.wrong(replaced(greatest_rig(), 4, pairs[:many]), (4, -1))

    def test_a_move_that_is_no_pair_of_settings(self):
        pairs = NO_TUPLES + (
            (), (0,), (0, 1, 2), (0, 3), (-1, 1), (1, 0), (2, 1), (0, 0), (2, 2), (True, 2),
            (False, 2), (0, True), (0, "1"), (0, None), ((0,), 1), ((0, 1),), "01", [0, 2],
        )
        for pair in pairs:
            self.wrong(replaced(RIG, 4, (pair,)), (4, 0))
            self.wrong(replaced(RIG, 4, ((0, 1), pair)), (4, 1))
            self.wrong(replaced(RIG, 4, ((0, 1), (0, 2), pair)), (4, 2))
        self.wrong(replaced(LEAST, 4, ((0, 1),)), (4, 0))

    def test_a_move_that_does_not_stand_above_the_one_ahead(self):
        self.wrong(replaced(RIG, 4, ((0, 1), (0, 1))), (4, 1))
        self.wrong(replaced(RIG, 4, ((0, 2), (0, 1))), (4, 1))
        self.wrong(replaced(RIG, 4, ((1, 2), (0, 2))), (4, 1))
        self.wrong(replaced(RIG, 4, ((0, 1), (1, 2), (0, 2))), (4, 2))
        self.wrong(replaced(RIG, 4, ((0, 1), (0, 2), (0, 1))), (4, 2))
        moves = greatest_rig()[4]
        self.wrong(replaced(greatest_rig(), 4, moves[:199] + (moves[198],)), (4, 199))

    def test_of_two_things_wrong_the_earlier_one_is_told(self):
        wrongs = ((0, 0, (0,)), (1, 17, (1,)), (2, (), (2, -1)), (3, (), (3, -1)), (4, None, (4, -1)))
        for (one, bad, where), (two, worse, _) in itertools.combinations(wrongs, 2):
            self.wrong(replaced(replaced(RIG, one, bad), two, worse), where)
        self.wrong(replaced(RIG, 2, ((0,), (3,), (4,))), (2, 1))
        self.wrong(replaced(RIG, 3, ((0, 0, 0), (0, 0), (0, 0, 10))), (3, 1))
        self.wrong(replaced(RIG, 4, ((0, 0), (0, 0))), (4, 0))
        self.wrong(replaced(replaced(RIG, 2, ((0,), (1,), (3,))), 3, ((0,),)), (2, 2))
        self.wrong(replaced(replaced(RIG, 3, RIG[3][:2] + ((0,),)), 4, ((1, 0),)), (3, 2))
        self.wrong((2, 3, RIG[2], RIG[3], RIG[4]), (2, -1))
        self.wrong((3, 2, RIG[2], RIG[3], RIG[4]), (2, 2))
        self.wrong((3, 3, RIG[2], RIG[3][:2], RIG[4]), (4, 1))

    def test_anything_is_judged(self):
        for thing in ANYTHING:
            with self.subTest(repr(thing)[:200]):
                self.assertIs(is_rig(thing), False)
                for place in range(5):
                    right = (place, repr(thing)) in ((1, "3"), (4, "()"))
                    self.assertIs(is_rig(replaced(LEAST, place, thing)), right)
                for place in range(2, 5):
                    right = (place, repr(thing)) in ((2, "()"), (2, "(0,)"), (3, "(0,)"))
                    self.assertIs(is_rig(replaced(LEAST, place, (thing,))), right)


class Marks(Strict):

    def test_faults(self):
        for x in range(3):
            self.same(agreeing(RIG, (0, 1, 2), x, ()), (0, 1, 2))
        for x in NOT_BELOW_THREE:
            self.refused(BadFault, x, agreeing, RIG, (0, 1, 2), x, ())

    def test_settings(self):
        for g in NOT_BELOW_THREE:
            self.refused(BadSetting, g, neighbours, RIG, g)

    def test_moves(self):
        for move in NOT_BELOW_TWO:
            self.refused(BadMove, move, free, BOOK, (), move)

    def test_no_move_is_there(self):
        self.refused(BadMove, 0, free, (LEAST, ()), (), 0)


class Neighbours(Strict):

    def test_pairs_ascending(self):
        self.same(neighbours(RIG, 0), ((1, 0), (2, 1)))
        self.same(neighbours(RIG, 1), ((0, 0),))
        self.same(neighbours(RIG, 2), ((0, 1),))
        self.same(neighbours(FIVE, 0), ((1, 0), (4, 1)))
        self.same(neighbours(FIVE, 1), ((0, 0), (2, 2), (4, 3)))
        self.same(neighbours(FIVE, 3), ((4, 4),))
        self.same(neighbours(FIVE, 4), ((0, 1), (1, 3), (3, 4)))
        self.same(neighbours(rig=FIVE, g=2), ((1, 2),))

    def test_a_setting_that_nothing_joins(self):
        self.same(neighbours(LEAST, 0), ())
        self.same(neighbours(replaced(RIG, 4, ((0, 2),)), 1), ())

    def test_reckoned_plainly(self):
        for rig, _ in random_books(60, 2):
            for g in range(len(rig[3])):
                pairs = [(sum(pair) - g, k) for k, pair in enumerate(rig[4]) if g in pair]
                self.same(neighbours(rig, g), tuple(sorted(pairs)))

    def test_refusals(self):
        for thing, where in NO_RIGS:
            self.refused(BadRig, where, neighbours, thing, 0)
            self.refused(BadRig, where, neighbours, thing, 40)
        self.refused(BadSetting, 5, neighbours, FIVE, 5)
        self.refused(BadSetting, True, neighbours, FIVE, True)



if __name__ == "__main__":
    unittest.main()
