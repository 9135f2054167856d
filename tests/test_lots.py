"""[3] lots, [4] what is shown."""

import itertools
import unittest

from tests.helping import (
    NOT_BELOW_THREE, NO_LOTS, NO_RIGS, NO_TUPLES, RIG, Strict, greatest_rig, lots_of, random_books,
)
from waryrig.errors import BadFault, BadLot, BadRig, BadSetting
from waryrig.lots import agreeing, all_faults, done, one_sign, parted, remedies_for

# Fault 1 has no cure; remedy 3 cures all others.
FOUR = (
    4, 4, ((0, 3), (), (0, 1, 3), (1, 3)),
    ((5, 0, 5, 0), (1, 2, 1, 3), (9, 9, 9, 9), (3, 2, 1, 0)), ((0, 1), (1, 2)),
)


class AllFaults(Strict):

    def test_the_lot_of_all(self):
        self.same(all_faults(RIG), (0, 1, 2))
        self.same(all_faults(rig=FOUR), (0, 1, 2, 3))
        self.same(all_faults((1, 1, ((),), ((0,),), ())), (0,))
        self.same(all_faults(greatest_rig()), tuple(range(24)))

    def test_no_rig(self):
        for thing, where in NO_RIGS:
            self.refused(BadRig, where, all_faults, thing)


class Remedies(Strict):

    def test_of_the_empty_lot(self):
        self.same(remedies_for(RIG, ()), (0, 1, 2))
        self.same(remedies_for(FOUR, ()), (0, 1, 2, 3))
        self.same(remedies_for(greatest_rig(), ()), tuple(range(16)))
        self.assertIs(done(RIG, ()), True)
        self.assertIs(done(FOUR, ()), True)

    def test_of_one_fault(self):
        self.same(remedies_for(RIG, (2,)), (2,))
        self.same(remedies_for(FOUR, (1,)), ())
        self.same(remedies_for(FOUR, (2,)), (0, 1, 3))
        self.assertIs(done(FOUR, (2,)), True)
        self.assertIs(done(FOUR, (1,)), False)

    def test_of_several(self):
        self.same(remedies_for(FOUR, (0, 2)), (0, 3))
        self.same(remedies_for(FOUR, (2, 3)), (1, 3))
        self.same(remedies_for(FOUR, (0, 2, 3)), (3,))
        self.same(remedies_for(FOUR, (0, 1, 2, 3)), ())
        self.same(remedies_for(rig=RIG, lot=(0, 1)), ())
        self.assertIs(done(FOUR, (0, 2, 3)), True)
        self.assertIs(done(FOUR, (0, 1)), False)
        self.assertIs(done(rig=RIG, lot=(0, 2)), False)

    def test_of_all(self):
        self.same(remedies_for(greatest_rig(), tuple(range(24))), tuple(range(16)))
        self.assertIs(done(greatest_rig(), tuple(range(24))), True)
        self.assertIs(done(RIG, (0, 1, 2)), False)

    def test_a_lot_whose_faults_are_cured_only_two_by_two(self):
        rig = (3, 3, ((0, 1), (1, 2), (0, 2)), ((0, 0, 0),), ())
        for lot in lots_of(3):
            self.assertIs(done(rig, lot), len(lot) < 3)

    def test_reckoned_plainly(self):
        for rig, _ in random_books(40, 3):
            for lot in lots_of(rig[0]):
                due = tuple(r for r in range(rig[1]) if all(r in rig[2][x] for x in lot))
                self.same(remedies_for(rig, lot), due)
                self.assertIs(done(rig, lot), due != ())

    def test_no_lots(self):
        for lot in NO_LOTS:
            with self.subTest(repr(lot)):
                self.refused(BadLot, -1, remedies_for, RIG, lot)
                self.refused(BadLot, -1, done, RIG, lot)

    def test_no_rig_is_told_ahead_of_no_lot(self):
        for thing, where in NO_RIGS:
            for call in (remedies_for, done):
                self.refused(BadRig, where, call, thing, (0,))
                self.refused(BadRig, where, call, thing, (1, 0))
                self.refused(BadRig, where, call, thing, None)


class Agreeing(Strict):

    def test_at_settings_in_any_order(self):
        for settings in ((0, 1), (1, 0), (0, 1, 0), (1, 1, 0, 0, 1)):
            self.same(agreeing(FOUR, (0, 1, 2, 3), 0, settings), (0, 2))
            self.same(agreeing(FOUR, (0, 1, 2, 3), 1, settings), (1,))
            self.same(agreeing(FOUR, (0, 1, 2, 3), 3, settings), (3,))

    def test_at_one_setting(self):
        self.same(agreeing(FOUR, (0, 1, 2, 3), 1, (0,)), (1, 3))
        self.same(agreeing(FOUR, (0, 1, 2, 3), 1, (2,)), (0, 1, 2, 3))
        self.same(agreeing(FOUR, (0, 1, 2, 3), 1, (3, 3)), (1,))
        self.same(agreeing(rig=RIG, lot=(0, 1), x=0, settings=(1,)), (0, 1))

    def test_at_none_it_is_the_lot(self):
        for lot in lots_of(4):
            for x in range(4):
                self.same(agreeing(FOUR, lot, x, ()), lot)

    def test_x_need_not_be_in_the_lot(self):
        self.same(agreeing(FOUR, (0, 2, 3), 1, (0,)), (3,))
        self.same(agreeing(FOUR, (2,), 0, (0, 1, 2)), (2,))
        self.same(agreeing(FOUR, (1, 3), 0, (0,)), ())
        self.same(agreeing(FOUR, (), 0, (0, 1)), ())

    def test_settings_need_not_be_joined(self):
        self.same(agreeing(FOUR, (0, 1, 2, 3), 0, (3, 0)), (0,))

    def test_many_settings(self):
        self.same(agreeing(FOUR, (0, 1, 2, 3), 2, (0, 1, 2) * 6000), (0, 2))

    def test_reckoned_plainly(self):
        for rig, _ in random_books(40, 4):
            some = [range(len(rig[3]))] * 2
            for lot, x, settings in itertools.product(
                    lots_of(rig[0]), range(rig[0]), itertools.product(*some)):
                shown = [[rig[3][g][y] for g in settings] for y in range(rig[0])]
                due = tuple(y for y in lot if shown[y] == shown[x])
                self.same(agreeing(rig, lot, x, settings), due)

    def test_refusals(self):
        for lot in NO_LOTS:
            self.refused(BadLot, -1, agreeing, RIG, lot, 0, ())
        for x in NOT_BELOW_THREE:
            self.refused(BadFault, x, agreeing, RIG, (0, 1), x, (0,))
        for settings in NO_TUPLES + ([0],):
            self.refused(BadSetting, -1, agreeing, RIG, (0, 1), 0, settings)
        for g in NOT_BELOW_THREE:
            self.refused(BadSetting, g, agreeing, RIG, (0, 1), 0, (g,))
            self.refused(BadSetting, g, agreeing, RIG, (0, 1), 0, (0, 2, g, 7, g))
            self.refused(BadSetting, g, agreeing, RIG, (), 0, (1, g, True))

    def test_their_order(self):
        for thing, where in NO_RIGS:
            self.refused(BadRig, where, agreeing, thing, (9, 0), 9, (9,))
        self.refused(BadLot, -1, agreeing, RIG, (1, 0), 9, (9,))
        self.refused(BadFault, 9, agreeing, RIG, (0, 1), 9, (9,))
        self.refused(BadFault, 9, agreeing, RIG, (0, 1), 9, None)
        self.refused(BadSetting, 9, agreeing, RIG, (0, 1), 1, (9,))


class Shown(Strict):

    def test_of_no_fault(self):
        for g in range(4):
            self.assertIs(one_sign(FOUR, (), g), True)
            self.same(parted(FOUR, (), g), ())

    def test_of_one_fault(self):
        for g in range(4):
            for x in range(4):
                self.assertIs(one_sign(FOUR, (x,), g), True)
                self.same(parted(FOUR, (x,), g), ((FOUR[3][g][x], (x,)),))

    def test_of_all(self):
        self.assertIs(one_sign(FOUR, (0, 1, 2, 3), 0), False)
        self.assertIs(one_sign(FOUR, (0, 1, 2, 3), 2), True)
        self.same(parted(FOUR, (0, 1, 2, 3), 0), ((0, (1, 3)), (5, (0, 2))))
        self.same(parted(FOUR, (0, 1, 2, 3), 1), ((1, (0, 2)), (2, (1,)), (3, (3,))))
        self.same(parted(FOUR, (0, 1, 2, 3), 2), ((9, (0, 1, 2, 3)),))
        self.same(parted(FOUR, (0, 1, 2, 3), 3), ((0, (3,)), (1, (2,)), (2, (1,)), (3, (0,))))

    def test_of_some(self):
        self.assertIs(one_sign(FOUR, (0, 2), 0), True)
        self.assertIs(one_sign(FOUR, (0, 3), 0), False)
        self.assertIs(one_sign(rig=FOUR, lot=(1, 3), g=1), False)
        self.same(parted(FOUR, (0, 1), 0), ((0, (1,)), (5, (0,))))
        self.same(parted(rig=FOUR, lot=(0, 2), g=1), ((1, (0, 2)),))

    def test_reckoned_plainly(self):
        for rig, _ in random_books(40, 5):
            for lot, g in itertools.product(lots_of(rig[0]), range(len(rig[3]))):
                row = rig[3][g]
                due = [(s, tuple(x for x in lot if row[x] == s)) for s in range(10)]
                due = tuple(pair for pair in due if pair[1])
                self.same(parted(rig, lot, g), due)
                self.assertIs(one_sign(rig, lot, g), len(due) < 2)

    def test_refusals(self):
        for call in (one_sign, parted):
            for thing, where in NO_RIGS:
                self.refused(BadRig, where, call, thing, (1, 0), 9)
            for lot in NO_LOTS:
                self.refused(BadLot, -1, call, RIG, lot, 0)
                self.refused(BadLot, -1, call, RIG, lot, 9)
            for g in NOT_BELOW_THREE:
                self.refused(BadSetting, g, call, RIG, (0, 1), g)
                self.refused(BadSetting, g, call, RIG, (), g)


if __name__ == "__main__":
    unittest.main()
