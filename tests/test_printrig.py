"""[65], [72] rigs as texts: how they are told, and there and back."""

import random
import unittest

from tests.helping import NAMED, NAMES, RIG_TEXT, Strict, greatest_named, replaced, some_named
from waryrig.names import made_named
from waryrig.printrig import print_rig
from waryrig.readrig import read_rig


class PrintRig(Strict):

    def test_the_example(self):
        self.same(print_rig(NAMED), RIG_TEXT)
        self.same(print_rig(named=NAMED), RIG_TEXT)

    def test_a_fault_without_cures(self):
        named = (replaced(NAMED[0], 2, ((), (0, 1))), NAMES)
        self.same(print_rig(named), RIG_TEXT.replace("fault f: fuse;", "fault f:;"))
        self.same(read_rig(print_rig(named)), named)

    def test_the_least_rig(self):
        named = ((1, 1, ((),), ((0,),), ()), (("a",), ("a",), ("a",), ("a",)))
        self.same(print_rig(named), "signs a; remedies a; fault a:; setting a: a;")
        self.same(read_rig(print_rig(named)), named)

    def test_signs_that_nothing_shows_are_told(self):
        named = (NAMED[0], replaced(NAMES, 3, ("no", "yes", "maybe")))
        self.same(print_rig(named), RIG_TEXT.replace("no yes;", "no yes maybe;", 1))
        self.same(read_rig(print_rig(named)), named)

    def test_moves_and_remedies_in_ascending_order(self):
        rig = (1, 3, ((0, 2),), ((0,), (1,), (0,)), ((0, 1), (0, 2), (1, 2)))
        named = (rig, (("f",), ("z", "y", "x"), ("c", "b", "a"), ("t", "s")))
        self.same(print_rig(named), (
            "signs t s; remedies z y x; fault f: z x; setting c: t; setting b: s; setting a: t; "
            "move c - b; move c - a; move b - a;"))

    def test_there_and_back(self):
        chance = random.Random(421)
        for _ in range(300):
            named, _ = some_named(chance)
            self.same(made_named(named), named)
            text = print_rig(named)
            self.same(read_rig(text), named)
            self.same(print_rig(read_rig(text)), text)
            self.assertNotIn("  ", text)
            self.assertNotIn(" ;", text)
            self.assertNotIn(" :", text)

    def test_the_greatest_rig(self):
        text = print_rig(greatest_named())
        self.assertLess(len(text), 60000)
        self.same(read_rig(text), greatest_named())

    def test_refusals(self):
        self.refuses_wrong_named(print_rig)


if __name__ == "__main__":
    unittest.main()
