"""[12] starts, [13] ends, [14] parting; and of [0.3] what speaks of them."""

import unittest

from tests.helping import (
    ANYTHING, BOOK, MOVES, NOT_BELOW_THREE, NO_RIGS, NO_STARTS, RIG, SIGNS, Strict, greatest_rig,
    lots_of, many_lots, random_books, random_starts, replaced,
)
from waryrig.ends import end, end_from, home, made_start, parting
from waryrig.errors import BadBook, BadFault, BadRig, BadStart
from waryrig.free import free
from waryrig.lots import agreeing, all_faults
from waryrig.regions import region
from waryrig.rigs import neighbours
from waryrig.walks import safe, seen

# One sees more at each setting, and only then comes to the next one.
STAIRS_RIG = (
    4, 1, ((0,),) * 4, ((0, 0, 0, 0), (0, 0, 0, 1), (0, 0, 1, 0), (0, 1, 0, 0)),
    ((0, 1), (1, 2), (2, 3)),
)
STAIRS = (STAIRS_RIG, ((), ((3,),), ((2,), (2, 3))))


def plainly_ended(book, start, x):
    """Walk about safely in all ways, and return the least knowledge and all come to."""
    rig = book[0]
    lot, g = start
    begin = (agreeing(rig, lot, x, (g,)), g)
    met = {begin}
    waiting = [begin]
    while waiting:
        known, here = waiting.pop()
        for there, move in neighbours(rig, here):
            if free(book, known, move):
                state = (agreeing(rig, known, x, (there,)), there)
                if state not in met:
                    met.add(state)
                    waiting.append(state)
    return min((known for known, _ in met), key=len), tuple(sorted({g for _, g in met}))


def safe_walks(book, x, most):
    """Return all safe walks of so many settings at most."""
    found = [(0,)]
    for walk in found:
        if len(walk) < most:
            for there, _ in neighbours(book[0], walk[-1]):
                if safe(book, x, walk + (there,)):
                    found.append(walk + (there,))
    return found


class Starts(Strict):

    def test_home(self):
        self.same(home(RIG), ((0, 1, 2), 0))
        self.same(home(rig=STAIRS_RIG), ((0, 1, 2, 3), 0))
        self.same(home(greatest_rig()), (tuple(range(24)), 0))
        self.assertIs(made_start(RIG, home(RIG))[1], 0)

    def test_right_ones_are_returned_as_they_were_handed_in(self):
        for lot in lots_of(3)[1:]:
            for g in range(3):
                start = (lot, g)
                self.assertIs(made_start(RIG, start), start)
                self.assertIs(made_start(rig=RIG, thing=start), start)

    def test_wrong_ones(self):
        for thing in NO_STARTS:
            with self.subTest(repr(thing)):
                self.refused(BadStart, 0, made_start, RIG, thing)

    def test_of_anything(self):
        for thing in ANYTHING:
            self.refused(BadStart, 0, made_start, RIG, thing)
            self.refused(BadStart, 0, made_start, RIG, (thing, 9))
            self.refused(BadStart, 0, made_start, RIG, ((), thing))

    def test_no_rig_is_told_ahead(self):
        for thing, where in NO_RIGS:
            self.refused(BadRig, where, home, thing)
            self.refused(BadRig, where, made_start, thing, None)
            self.refused(BadRig, where, made_start, thing, ((0,), 0))


class Ends(Strict):

    def test_the_example(self):
        self.same(end(BOOK, 0), ((0,), (0, 1, 2)))
        self.same(end(BOOK, 1), ((1,), (0, 1, 2)))
        self.same(end(book=BOOK, x=2), ((2,), (0, 1)))

    def test_the_region_is_taken_anew(self):
        self.same(end(STAIRS, 0), ((0,), (0, 1, 2, 3)))
        self.same(end(STAIRS, 1), ((1,), (0, 1, 2, 3)))
        self.same(end(STAIRS, 2), ((2,), (0, 1, 2)))
        self.same(end(STAIRS, 3), ((3,), (0, 1)))

    def test_what_the_setting_of_the_start_shows_is_known_ahead_of_the_region(self):
        # At setting 1 fault 2 is ruled out at once, so setting 2 can be come to.
        self.same(end_from(BOOK, ((0, 1, 2), 1), 0), ((0,), (0, 1, 2)))
        book = (RIG, (((1, 2),), ()))
        self.same(end_from(book, ((0, 1, 2), 1), 2), ((2,), (0, 1, 2)))
        self.same(end_from(book, ((1, 2), 0), 1), ((1,), (0, 1, 2)))

    def test_from_other_starts(self):
        self.same(end_from(BOOK, ((0, 1, 2), 0), 2), ((2,), (0, 1)))
        self.same(end_from(BOOK, ((0, 2), 0), 0), ((0,), (0, 1, 2)))
        self.same(end_from(BOOK, ((0, 1), 0), 0), ((0,), (0, 1, 2)))
        self.same(end_from(book=BOOK, start=((2,), 2), x=2), ((2,), (2,)))
        self.same(end_from(BOOK, ((0, 2), 2), 2), ((0, 2), (2,)))
        self.same(end_from(BOOK, ((1, 2), 2), 2), ((2,), (2,)))

    def test_what_cannot_be_told_apart_stays(self):
        book = (replaced(RIG, 3, ((0, 0, 0), (0, 0, 0), (0, 1, 0))), BOOK[1])
        for x in range(3):
            self.same(end(book, x), ((0, 1, 2), (0, 1)))
        self.same(parting(book), ((0, 1, 2),))

    def test_end_is_that_of_home(self):
        for book in random_books(40, 31):
            for x in range(book[0][0]):
                self.same(end(book, x), end_from(book, home(book[0]), x))

    def test_it_stays_as_it_is(self):
        for book, start in random_starts(60, 32):
            for x in start[0]:
                known, settings = end_from(book, start, x)
                self.same(settings, region(book, known, start[1]))
                self.same(agreeing(book[0], known, x, settings), known)
                self.assertIn(x, known)

    def test_what_safe_walkers_come_to_and_no_more(self):
        deep = 0
        for book, start in random_starts(200, 33):
            for x in start[0]:
                due = plainly_ended(book, start, x)
                self.same(end_from(book, start, x), due)
                deep += len(due[0]) < len(start[0]) and len(due[1]) > 2
        self.assertGreater(deep, 50)

    def test_whoever_walks_safely_has_spoilt_nothing(self):
        for book in random_books(40, 34):
            for x in range(book[0][0]):
                due = end(book, x)[0]
                for walk in safe_walks(book, x, 4):
                    known = seen(book[0], x, walk)
                    self.same(end_from(book, (known, walk[-1]), x)[0], due)

    def test_each_fault_of_the_lot_has_the_same_end(self):
        for book, start in random_starts(80, 35):
            for x in start[0]:
                due = end_from(book, start, x)
                for y in due[0]:
                    self.same(end_from(book, start, y), due)

    def test_refusals_of_end_in_order(self):
        self.refused(BadBook, -1, end, None, 9)
        self.refused(BadBook, -2, end, (RIG, ()), 9)
        for thing, where in NO_RIGS:
            self.refused(BadRig, where, end, (thing, ()), 9)
        for x in NOT_BELOW_THREE:
            self.refused(BadFault, x, end, BOOK, x)

    def test_refusals_of_end_from_in_order(self):
        self.refused(BadBook, 1, end_from, (RIG, ((), None)), None, 9)
        for thing, where in NO_RIGS:
            self.refused(BadRig, where, end_from, (thing, ()), None, 9)
        for thing in NO_STARTS:
            self.refused(BadStart, 0, end_from, BOOK, thing, 9)
            self.refused(BadStart, 0, end_from, BOOK, thing, 0)
        for x in NOT_BELOW_THREE:
            self.refused(BadFault, x, end_from, BOOK, ((0, 1, 2), 0), x)

    def test_a_fault_that_is_not_in_the_lot_of_the_start(self):
        for lot in lots_of(3)[1:]:
            for x in range(3):
                if x not in lot:
                    self.refused(BadFault, x, end_from, BOOK, (lot, 0), x)
        self.refused(BadFault, True, end_from, BOOK, ((1,), 0), True)
        self.refused(BadFault, False, end_from, BOOK, ((0,), 0), False)


class Partings(Strict):

    def test_the_example(self):
        self.same(parting(BOOK), ((0,), (1,), (2,)))
        self.same(parting(book=STAIRS), ((0,), (1,), (2,), (3,)))

    def test_by_their_least_faults(self):
        rig = (5, 1, ((0,),) * 5, ((2, 1, 0, 1, 2),), ())
        self.same(parting((rig, ())), ((0, 4), (1, 3), (2,)))
        rig = (5, 1, ((0,),) * 5, ((0,) * 5, (1, 0, 0, 1, 0)), ((0, 1),))
        self.same(parting((rig, ((),))), ((0, 3), (1, 2, 4)))
        self.same(parting((rig, (((0,),),))), ((0, 1, 2, 3, 4),))

    def test_the_lots_of_the_ends_each_once(self):
        many = set()
        for book in random_books(120, 36):
            faults = all_faults(book[0])
            due = tuple(sorted({end(book, x)[0] for x in faults}))
            self.same(parting(book), due)
            self.same(tuple(sorted(sum(parting(book), ()))), faults)
            many.add(len(due))
        self.assertTrue({1, 2, 3} <= many)

    def test_great_books(self):
        pairs = tuple((g, g + 1) for g in range(39))
        signs = tuple(tuple(int(x == g) for x in range(24)) for g in range(40))
        rig = (24, 16, ((0,),) * 24, signs, pairs)
        # Each move is free only once all faults ahead of its setting are ruled out.
        bars = tuple(tuple((x,) for x in range(min(g, 23))) for g in range(39))
        self.same(parting((rig, bars)), tuple((x,) for x in range(24)))
        for x in (0, 11, 23):
            self.same(end((rig, bars), x)[0], (x,))
        full = (greatest_rig(), (many_lots(200),) * 200)
        self.same(parting(full), (tuple(range(24)),))

    def test_refusals(self):
        self.refused(BadBook, -1, parting, RIG)
        self.refused(BadBook, -2, parting, (RIG, ()))
        self.refused(BadBook, 0, parting, (RIG, (((),), ())))
        for thing, where in NO_RIGS:
            self.refused(BadRig, where, parting, (thing, ()))

    def test_nothing_is_barred_for_the_empty_list_of_moves(self):
        self.same(parting(((3, 1, ((0,),) * 3, SIGNS, ()), ())), ((0, 1, 2),))
        self.same(parting(((3, 1, ((0,),) * 3, SIGNS, MOVES), ((), ()))), ((0,), (1,), (2,)))


if __name__ == "__main__":
    unittest.main()
