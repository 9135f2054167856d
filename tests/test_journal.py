"""[40] journals."""

import random
import unittest

from tests.helping import NO_ENTRIES, NO_LOTS, NO_RIGS, NO_TUPLES, RIG, Strict, lots_of, random_books
from waryrig.errors import BadJournal, BadLot, BadRig
from waryrig.journal import left
from waryrig.lots import agreeing


class Left(Strict):

    def test_some(self):
        self.same(left(RIG, (0, 1, 2), ((1, 0),)), (0, 1))
        self.same(left(RIG, (0, 1, 2), ((1, 1),)), (2,))
        self.same(left(RIG, (0, 1, 2), ((1, 0), (2, 1))), (1,))
        self.same(left(RIG, (0, 2), ((1, 0), (2, 0))), (0,))
        self.same(left(rig=RIG, lot=(1, 2), journal=((0, 0),)), (1, 2))

    def test_of_no_faults_and_of_no_entries(self):
        self.same(left(RIG, (), ()), ())
        self.same(left(RIG, (), ((0, 0), (1, 7))), ())
        for lot in lots_of(3):
            self.same(left(RIG, lot, ()), lot)

    def test_signs_that_no_fault_shows(self):
        for sign in range(10):
            self.same(left(RIG, (0, 1, 2), ((0, sign),)), (0, 1, 2) if sign == 0 else ())
        self.same(left(RIG, (0, 1, 2), ((1, 0), (1, 1))), ())

    def test_the_same_entry_twice_and_in_any_order(self):
        chance = random.Random(171)
        for book in random_books(100, 172):
            rig = book[0]
            journal = tuple(
                (g, chance.choice(rig[3][g])) for g in range(len(rig[3])) if chance.random() < 0.5)
            for lot in lots_of(rig[0]):
                due = tuple(x for x in lot if all(rig[3][g][x] == sign for g, sign in journal))
                self.same(left(rig, lot, journal), due)
                self.same(left(rig, lot, journal * 3), due)
                self.same(left(rig, lot, journal[::-1]), due)

    def test_what_a_fault_shows_leaves_those_that_agree_with_it(self):
        for book in random_books(60, 173):
            rig = book[0]
            settings = tuple(range(0, len(rig[3]), 2))
            lot = tuple(range(rig[0]))
            for x in lot:
                journal = tuple((g, rig[3][g][x]) for g in settings)
                self.same(left(rig, lot, journal), agreeing(rig, lot, x, settings))

    def test_refusals_in_order(self):
        for thing, where in NO_RIGS:
            self.refused(BadRig, where, left, thing, None, None)
        for lot in NO_LOTS:
            self.refused(BadLot, -1, left, RIG, lot, None)
        for journal in NO_TUPLES:
            self.refused(BadJournal, -1, left, RIG, (), journal)
            self.refused(BadJournal, -1, left, RIG, (0, 1), journal)
        for entry in NO_ENTRIES:
            self.refused(BadJournal, 0, left, RIG, (0, 1), (entry,))
            self.refused(BadJournal, 0, left, RIG, (0, 1), (entry, None, (1, 0)))
            self.refused(BadJournal, 2, left, RIG, (), ((2, 9), (2, 9), entry, entry))
        self.refused(BadJournal, 0, left, RIG, (0, 1), (1, 0))


if __name__ == "__main__":
    unittest.main()
