"""[10] walks, [11] what was seen on them."""

import random
import unittest

from tests.helping import (
    ANYTHING, BOOK, NOT_BELOW_THREE, NO_RIGS, NO_WALKS, RIG, Strict, greatest_rig, random_books,
)
from waryrig.errors import BadBook, BadFault, BadRig, BadWalk
from waryrig.free import barring
from waryrig.lots import agreeing, all_faults
from waryrig.rigs import neighbours
from waryrig.walks import first_barred, is_walk, made_walk, safe, seen

# Each setting sets one more fault apart from fault 0.
LINE = (4, 1, ((0,),) * 4, ((0, 0, 0, 1), (0, 0, 1, 1), (0, 1, 1, 1)), ((0, 1), (1, 2)))
RIGHT_WALKS = (
    (0,), (0, 1), (0, 2), (0, 1, 0), (0, 1, 0, 2), (0, 2, 0, 1, 0, 1, 0), (0, 1) * 1000,
    (0, 2) * 999 + (0,),
)
NO_BOOKS = (
    (None, BadBook, -1), ((RIG, ()), BadBook, -2), ((RIG, ((), None)), BadBook, 1),
    (((), ((), ())), BadRig, (-1,)),
)


def some_walk(chance, rig):
    """Return a walk of the rig that wanders about."""
    walk = (0,)
    for _ in range(chance.randint(0, 12)):
        near = neighbours(rig, walk[-1])
        if near:
            walk += (chance.choice(near)[0],)
    return walk


def plainly_barred(book, x, walk):
    """Reckon first_barred as its words say."""
    rig = book[0]
    for index in range(1, len(walk)):
        known = agreeing(rig, all_faults(rig), x, walk[:index])
        lot = barring(book, known, dict(neighbours(rig, walk[index - 1]))[walk[index]])
        if lot is not None:
            return (index, lot)
    return None


class Walks(Strict):

    def test_right_ones_are_returned_as_they_were_handed_in(self):
        for walk in RIGHT_WALKS:
            self.assertIs(made_walk(RIG, walk), walk)
            self.assertIs(made_walk(rig=RIG, thing=walk), walk)
            self.assertIs(is_walk(RIG, walk), True)
            self.assertIs(is_walk(rig=RIG, thing=walk), True)

    def test_two_thousand_settings_and_no_more(self):
        self.assertIs(is_walk(RIG, (0, 1) * 1000), True)
        self.assertIs(is_walk(RIG, (0, 1) * 1000 + (0,)), False)
        self.refused(BadWalk, -1, made_walk, RIG, (0, 1) * 1000 + (0,))

    def test_wrong_ones(self):
        for thing, what in NO_WALKS:
            with self.subTest(repr(thing)[:100]):
                self.refused(BadWalk, what, made_walk, RIG, thing)
                self.assertIs(is_walk(RIG, thing), False)

    def test_home_alone_where_nothing_is_joined(self):
        rig = (1, 1, ((),), ((0,), (0,)), ())
        self.assertIs(is_walk(rig, (0,)), True)
        self.refused(BadWalk, 1, made_walk, rig, (0, 1))

    def test_the_greatest_rig(self):
        rig = greatest_rig()
        walk = tuple(range(1, 40))
        self.refused(BadWalk, 0, made_walk, rig, walk)
        walk = (0, 39, 0, 1, 2, 3, 4, 5)
        self.assertIs(made_walk(rig, walk), walk)
        self.refused(BadWalk, 2, made_walk, rig, (0, 39, 38))
        self.refused(BadWalk, 2, made_walk, rig, (0, 39, 40))

    def test_no_rig_is_told_ahead_of_no_walk(self):
        for thing, where in NO_RIGS:
            for walk in ((), (0,), None):
                self.refused(BadRig, where, made_walk, thing, walk)
                self.assertIs(is_walk(thing, walk), False)

    def test_anything_is_judged(self):
        for thing in ANYTHING:
            self.assertIs(is_walk(RIG, thing), thing in ((0,), (0, 1)))
            self.assertIs(is_walk(thing, (0,)), False)
            self.assertIs(is_walk(thing, thing), False)
            self.assertIs(is_walk(RIG, (thing,)), repr(thing) == "0")


class Seen(Strict):

    def test_at_the_first_setting_and_at_the_last(self):
        self.same(seen(LINE, 0, (0,)), (0, 1, 2))
        self.same(seen(LINE, 3, (0,)), (3,))
        self.same(seen(LINE, 0, (0, 1)), (0, 1))
        self.same(seen(LINE, 2, (0, 1)), (2,))
        self.same(seen(LINE, 1, (0, 1, 2)), (1,))
        self.same(seen(rig=LINE, x=0, walk=(0, 1, 2, 1)), (0,))

    def test_walks_may_be_as_long_as_they_are_let(self):
        self.same(seen(RIG, 1, (0, 1) * 1000), (0, 1))
        self.same(seen(RIG, 1, (0, 1) * 999 + (0, 2)), (1,))

    def test_refusals_in_order(self):
        for thing, where in NO_RIGS:
            self.refused(BadRig, where, seen, thing, 9, ())
        for x in NOT_BELOW_THREE:
            self.refused(BadFault, x, seen, RIG, x, ())
        for thing, what in NO_WALKS:
            self.refused(BadWalk, what, seen, RIG, 2, thing)


class Barred(Strict):

    def test_the_example(self):
        for x in (0, 1):
            self.same(first_barred(BOOK, x, (0, 1, 0, 2)), None)
            self.assertIs(safe(BOOK, x, (0, 1, 0, 2)), True)
        self.same(first_barred(BOOK, 2, (0, 1, 0, 2)), (3, (2,)))
        self.assertIs(safe(BOOK, 2, (0, 1, 0, 2)), False)
        for x in range(3):
            self.same(first_barred(BOOK, x, (0, 2)), (1, (2,)))
            self.assertIs(safe(BOOK, x, (0, 2)), False)

    def test_a_walk_of_home_alone_is_safe(self):
        book = (RIG, (((0,), (1,), (2,)), ((0,), (1,), (2,))))
        for x in range(3):
            self.same(first_barred(book, x, (0,)), None)
            self.assertIs(safe(book, x, (0,)), True)

    def test_the_first_of_several_bars(self):
        book = (RIG, ((), ((0, 1, 2), (0, 2), (1,), (2,))))
        self.same(first_barred(book, 0, (0, 2)), (1, (0, 1, 2)))
        self.same(first_barred(book, 0, (0, 1, 0, 2)), (3, (1,)))
        self.same(first_barred(book, 2, (0, 1, 0, 2)), (3, (2,)))
        book = (RIG, ((), ((0, 2), (2,))))
        self.same(first_barred(book, 1, (0, 2, 0)), (1, (0, 2)))

    def test_the_first_of_several_moves(self):
        book = (RIG, (((0, 1),), ((2,),)))
        self.same(first_barred(book, 0, (0, 1, 0, 2)), (1, (0, 1)))
        self.same(first_barred((RIG, (((1,),), ((2,),))), 0, (0, 2, 0, 1)), (1, (2,)))

    def test_what_is_seen_at_the_last_setting_is_not_asked(self):
        # The sign at setting 1 would rule fault 2 out, but only behind the move.
        book = (RIG, (((2,),), ()))
        for x in range(3):
            self.same(first_barred(book, x, (0, 1)), (1, (2,)))

    def test_what_home_shows_is_known_at_the_first_move(self):
        book = (LINE, (((3,),), ()))
        for x in range(3):
            self.same(first_barred(book, x, (0, 1, 2)), None)
        self.same(first_barred(book, 3, (0, 1, 2)), (1, (3,)))

    def test_a_bar_of_several_faults(self):
        book = (RIG, (((0, 1, 2),), ((2,),)))
        self.same(first_barred(book, 0, (0, 1)), (1, (0, 1, 2)))
        self.same(first_barred((RIG, ((), ((1, 2),))), 2, (0, 1, 0, 2, 0, 1)), None)

    def test_a_long_walk(self):
        self.same(first_barred(BOOK, 2, (0, 1) * 999 + (0, 2)), (1999, (2,)))
        self.same(first_barred(BOOK, 1, (0, 1) * 999 + (0, 2)), None)

    def test_reckoned_plainly(self):
        chance = random.Random(21)
        told = set()
        for book in random_books(150, 22):
            walk = some_walk(chance, book[0])
            for x in range(book[0][0]):
                due = plainly_barred(book, x, walk)
                self.same(first_barred(book=book, x=x, walk=walk), due)
                self.assertIs(safe(book=book, x=x, walk=walk), due is None)
                told.add(due and due[0])
        self.assertTrue({None, 1, 2, 3} <= told)

    def test_refusals_in_order(self):
        for thing, kind, what in NO_BOOKS:
            self.refused(kind, what, first_barred, thing, 9, ())
        for x in NOT_BELOW_THREE:
            self.refused(BadFault, x, first_barred, BOOK, x, ())
        for thing, what in NO_WALKS:
            self.refused(BadWalk, what, first_barred, BOOK, 2, thing)

    def test_safe_judges_all_three(self):
        for thing, _, _ in NO_BOOKS:
            self.assertIs(safe(thing, 0, (0,)), False)
        for x in NOT_BELOW_THREE:
            self.assertIs(safe(BOOK, x, (0,)), False)
        for thing, _ in NO_WALKS:
            self.assertIs(safe(BOOK, 0, thing), False)
        for thing in ANYTHING:
            self.assertIs(safe(thing, 0, (0,)), False)
            self.assertIs(safe(BOOK, thing, (0,)), repr(thing) == "0")
            self.assertIs(safe(BOOK, 0, thing), thing in ((0,), (0, 1)))
            self.assertIs(safe(thing, thing, thing), False)


if __name__ == "__main__":
    unittest.main()
