"""[66] bars as texts, [72] there and back."""

import itertools
import random
import unittest

from tests.helping import (
    NAMED, NO_TUPLES, NOT_BELOW_TWO, Strict, greatest_named, lots_of, replaced, some_named,
)
from waryrig.errors import BadLot, BadMove, BadText, NoMove, NoName, Twice
from waryrig.readentries import print_bar, read_bar

# Four faults and four settings, which are joined in a ring.
RING = (
    (4, 1, ((0,),) * 4, ((0,) * 4,) * 4, ((0, 1), (0, 3), (1, 2), (2, 3))),
    (("f", "g", "h", "i"), ("r",), ("a", "b", "c", "d"), ("s",)))
AHEAD = "bar a - b while "


class ReadBar(Strict):

    def test_the_example(self):
        self.same(read_bar(NAMED, "bar home - far while f and w"), (0, (0, 1)))
        self.same(read_bar(named=NAMED, text="bar far - home while w and f"), (0, (0, 1)))

    def test_one_two_and_three_faults_in_any_order(self):
        for many in (1, 2, 3):
            for faults in itertools.permutations(range(4), many):
                text = AHEAD + " and ".join("fghi"[x] for x in faults)
                self.same(read_bar(RING, text), (0, tuple(sorted(faults))))

    def test_four_faults(self):
        text = AHEAD + "f and g and h"
        self.same(read_bar(RING, text), (0, (0, 1, 2)))
        for tail in (" and i", " and", " and f", " and 9a"):
            self.refused(BadText, len(text) + 1, read_bar, RING, text + tail)

    def test_moves_either_way_round(self):
        for move, (g, h) in enumerate(RING[0][4]):
            for one, other in ((g, h), (h, g)):
                text = "bar " + "abcd"[one] + " - " + "abcd"[other] + " while h"
                self.same(read_bar(RING, text), (move, (2,)))

    def test_blanks(self):
        self.same(read_bar(RING, "bar d-a while f and g"), (1, (0, 1)))
        self.same(read_bar(RING, "  bar   d  -a   while  f  and  g  "), (1, (0, 1)))

    def test_no_names(self):
        self.refused(NoName, 4, read_bar, RING, "bar e - e while x")
        self.refused(NoName, 8, read_bar, RING, "bar a - e while x")
        self.refused(NoName, 16, read_bar, RING, AHEAD + "x and f and f")
        self.refused(NoName, 16, read_bar, RING, AHEAD + "a and f")
        self.refused(NoName, 22, read_bar, RING, AHEAD + "f and r and f")
        self.refused(NoName, 28, read_bar, RING, AHEAD + "f and g and s")

    def test_no_moves(self):
        self.refused(NoMove, 8, read_bar, RING, "bar a - c while x")
        self.refused(NoMove, 8, read_bar, RING, "bar c - a while f")
        self.refused(NoMove, 8, read_bar, RING, "bar d - b 9a")
        for name in "abcd":
            self.refused(NoMove, 8, read_bar, RING, "bar " + name + " - " + name)

    def test_twice(self):
        self.refused(Twice, 22, read_bar, RING, AHEAD + "f and f and x")
        self.refused(Twice, 28, read_bar, RING, AHEAD + "f and g and f")
        self.refused(Twice, 28, read_bar, RING, AHEAD + "f and g and g and i")

    def test_words_that_cannot_stand_there(self):
        for text, place in (
            ("", 0), ("bar", 3), ("bar a", 5), ("bar a -", 7), ("bar a - b", 9), ("bar a - b while", 15),
            (AHEAD + "f and", 21), ("a - b while f", 0), ("bars a - b while f", 0),
            ("bar bar a - b while f", 4), ("bar a b while f", 6), ("bar a : b while f", 6),
            ("bar a - - b while f", 8), ("bar a - b if f", 10), ("bar a - b while and", 16),
            ("bar a - b while not f", 16), (AHEAD + "f g", 18), (AHEAD + "f or g", 18),
            (AHEAD + "f and and g", 22), (AHEAD + "(f)", 16), (AHEAD + "f;", 17),
        ):
            self.refused(BadText, place, read_bar, RING, text)

    def test_words_behind_the_end(self):
        for many in (1, 2, 3):
            text = AHEAD + " and ".join("fgh"[:many])
            for tail in ("f", ";", "bar", "while", "5", "9a", "A", "(ann bob)"):
                self.refused(BadText, len(text) + 1, read_bar, RING, text + " " + tail)

    def test_refusals_in_order(self):
        self.refuses_wrong_named(read_bar, None)
        for text in (None, 0, True, (), ("bar",)):
            self.refused(BadText, -1, read_bar, RING, text)
        self.refused(BadText, 20, read_bar, RING, "bar e - e while f   %")


class PrintBar(Strict):

    def test_the_example(self):
        self.same(print_bar(NAMED, 0, (0, 1)), "bar home - far while f and w")
        self.same(print_bar(named=NAMED, move=0, lot=(1,)), "bar home - far while w")

    def test_the_lesser_setting_first_whatever_it_is_called(self):
        named = (RING[0], replaced(RING[1], 2, ("z", "y", "x", "w")))
        self.same(print_bar(named, 1, (3,)), "bar z - w while i")
        self.same(print_bar(named, 3, (0, 2, 3)), "bar x - w while f and h and i")

    def test_there_and_back(self):
        chance = random.Random(431)
        for _ in range(100):
            named, _ = some_named(chance)
            for move in range(len(named[0][4])):
                for lot in lots_of(named[0][0]):
                    if 1 <= len(lot) <= 3:
                        text = print_bar(named, move, lot)
                        self.same(read_bar(named, text), (move, lot))
        named = greatest_named()
        self.same(read_bar(named, print_bar(named, 199, (1, 22, 23))), (199, (1, 22, 23)))

    def test_what_is_read_told_and_read_again(self):
        for text in ("bar b - a while g and f", "bar  a-b while g", "bar d - a while i and h and f"):
            bar = read_bar(RING, text)
            self.same(read_bar(RING, print_bar(RING, *bar)), bar)

    def test_refusals_in_order(self):
        self.refuses_wrong_named(print_bar, None, None)
        for move in tuple(thing for thing in NOT_BELOW_TWO if thing != 0) + (1,):
            self.refused(BadMove, move, print_bar, NAMED, move, None)
        for lot in NO_TUPLES + ((), (2,), (1, 0), (0, 0), (True,), (-1,), (0, 1, 2), ("f",), ((0,),)):
            self.refused(BadLot, -1, print_bar, NAMED, 0, lot)
        self.refused(BadLot, -1, print_bar, RING, 0, (0, 1, 2, 3))


if __name__ == "__main__":
    unittest.main()
