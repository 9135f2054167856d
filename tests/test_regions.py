"""[8] regions, [9] ways."""

import itertools
import unittest

from tests.helping import (
    BOOK, NOT_BELOW_THREE, NO_LOTS, NO_RIGS, RIG, Strict, greatest_rig, lots_of, many_lots,
    random_books,
)
from waryrig.errors import BadBook, BadLot, BadRig, BadSetting
from waryrig.free import free
from waryrig.regions import region, way


def of_moves(settings, moves, bars=None):
    """Return a book of four faults with these moves."""
    rig = (4, 1, ((0,),) * 4, ((0, 0, 0, 0),) * settings, moves)
    return (rig, bars or ((),) * len(moves))


# Several shortest ways lead from 0 to 5, and from 5 to 0.
CUBE = of_moves(8, (
    (0, 1), (0, 3), (0, 7), (1, 2), (1, 4), (2, 5), (2, 7), (3, 4), (3, 6), (4, 5), (5, 6), (6, 7),
))
# The first step to the lesser setting leads further round.
LURE = of_moves(6, ((0, 1), (0, 3), (1, 2), (2, 4), (3, 5), (4, 5)))
# A straight line whose settings are not in order.
LINE = of_moves(5, ((0, 4), (1, 3), (2, 3), (2, 4)))
# One bar of each size.
BARRED = of_moves(5, ((0, 1), (0, 2), (1, 3), (2, 3), (3, 4)),
                  ((), ((1,),), ((0, 2),), (), ((1, 2, 3),)))


def plain_ways(book, lot, g):
    """Return all ways from g that come to no setting twice, by their ends."""
    moves = [pair for move, pair in enumerate(book[0][4]) if free(book, lot, move)]
    ends = {}
    ways = [(g,)]
    while ways:
        steps = ways.pop()
        ends.setdefault(steps[-1], []).append(steps)
        for pair in moves:
            if steps[-1] in pair and sum(pair) - steps[-1] not in steps:
                ways.append(steps + (sum(pair) - steps[-1],))
    return ends


class Regions(Strict):

    def test_the_example(self):
        self.same(region(BOOK, (0, 1, 2), 0), (0, 1))
        self.same(region(BOOK, (0, 1), 0), (0, 1, 2))
        self.same(region(book=BOOK, lot=(0, 1), g=2), (0, 1, 2))

    def test_g_is_among_them(self):
        self.same(region(BOOK, (0, 1, 2), 2), (2,))
        self.same(region(BOOK, (2,), 2), (2,))
        self.same(region((RIG, (((0,),), ((0,),))), (0,), 0), (0,))
        self.same(region(of_moves(3, ()), (), 1), (1,))

    def test_moves_are_gone_both_ways(self):
        for g in range(5):
            self.same(region(LINE, (0, 1, 2, 3), g), (0, 1, 2, 3, 4))

    def test_parts_that_are_not_joined(self):
        book = of_moves(6, ((0, 5), (1, 2), (2, 4)))
        for part in ((0, 5), (1, 2, 4), (3,)):
            for g in part:
                self.same(region(book, (0,), g), part)

    def test_of_a_lesser_lot(self):
        self.same(region(BARRED, (0, 1, 2, 3), 0), (0, 1))
        self.same(region(BARRED, (0, 1, 2, 3), 2), (2, 3))
        self.same(region(BARRED, (0, 1, 2, 3), 4), (4,))
        self.same(region(BARRED, (1, 2, 3), 0), (0, 1, 2, 3))
        self.same(region(BARRED, (1, 2), 0), (0, 1, 2, 3, 4))
        self.same(region(BARRED, (0, 2), 1), (0, 1, 2, 3, 4))
        self.same(region(BARRED, (), 1), (0, 1, 2, 3, 4))

    def test_what_would_be_seen_is_not_asked(self):
        # At setting 1 fault 2 would be ruled out, and its bar with it.
        self.same(region(BOOK, (0, 1, 2), 1), (0, 1))

    def test_the_greatest_book(self):
        book = (greatest_rig(), (many_lots(200),) * 200)
        self.same(region(book, (), 39), tuple(range(40)))
        self.same(region(book, tuple(range(24)), 39), (39,))

    def test_refusals_in_order(self):
        self.refused(BadBook, -1, region, None, (1, 0), 9)
        self.refused(BadBook, -2, region, (RIG, ()), (1, 0), 9)
        self.refused(BadBook, 1, region, (RIG, ((), None)), (1, 0), 9)
        for thing, where in NO_RIGS:
            self.refused(BadRig, where, region, (thing, None), (1, 0), 9)
        for lot in NO_LOTS:
            self.refused(BadLot, -1, region, BOOK, lot, 0)
            self.refused(BadLot, -1, region, BOOK, lot, 9)
        for g in NOT_BELOW_THREE:
            self.refused(BadSetting, g, region, BOOK, (0, 1, 2), g)
            self.refused(BadSetting, g, region, BOOK, (), g)


class Ways(Strict):

    def test_the_example(self):
        self.same(way(BOOK, (0, 1), 1, 2), (1, 0, 2))
        self.same(way(BOOK, (0, 1, 2), 1, 2), None)
        self.same(way(book=BOOK, lot=(0, 1), g=2, h=1), (2, 0, 1))

    def test_to_itself(self):
        for g in range(3):
            for lot in lots_of(3):
                self.same(way(BOOK, lot, g, g), (g,))

    def test_one_that_is_none(self):
        self.same(way(BOOK, (2,), 0, 2), None)
        self.same(way(BOOK, (2,), 2, 0), None)
        self.same(way(of_moves(2, ()), (), 0, 1), None)
        self.same(way(BARRED, (0, 1, 2, 3), 0, 4), None)

    def test_several_shortest_ways(self):
        self.same(way(CUBE, (0,), 0, 5), (0, 1, 2, 5))
        self.same(way(CUBE, (0,), 5, 0), (5, 2, 1, 0))
        self.same(way(CUBE, (0,), 1, 6), (1, 0, 3, 6))
        self.same(way(CUBE, (0,), 6, 1), (6, 3, 0, 1))
        self.same(way(CUBE, (0,), 4, 7), (4, 1, 0, 7))
        self.same(way(CUBE, (0,), 7, 4), (7, 0, 1, 4))

    def test_the_shortest_ahead_of_the_least(self):
        self.same(way(LURE, (0,), 0, 5), (0, 3, 5))
        self.same(way(LURE, (0,), 5, 0), (5, 3, 0))
        self.same(way(LURE, (0,), 0, 4), (0, 1, 2, 4))

    def test_a_line(self):
        self.same(way(LINE, (0, 1, 2, 3), 0, 1), (0, 4, 2, 3, 1))
        self.same(way(LINE, (0, 1, 2, 3), 1, 0), (1, 3, 2, 4, 0))

    def test_bars_lead_round(self):
        self.same(way(BARRED, (), 0, 3), (0, 1, 3))
        self.same(way(BARRED, (0, 2), 0, 3), (0, 2, 3))
        self.same(way(BARRED, (1, 2, 3), 0, 2), (0, 1, 3, 2))

    def test_the_greatest_book(self):
        book = (greatest_rig(), (many_lots(200),) * 200)
        self.same(way(book, (), 38, 39), (38, 0, 39))
        self.same(way(book, tuple(range(24)), 38, 39), None)

    def test_reckoned_plainly(self):
        for book in random_books(60, 10):
            settings = range(len(book[0][3]))
            for lot, g in itertools.product(lots_of(book[0][0]), settings):
                ends = plain_ways(book, lot, g)
                self.same(region(book, lot, g), tuple(sorted(ends)))
                for h in settings:
                    due = min(ends.get(h, [None]), key=lambda steps: (len(steps or ()), steps))
                    self.same(way(book, lot, g, h), due)

    def test_refusals_in_order(self):
        self.refused(BadBook, -1, way, None, (1, 0), 9, 8)
        self.refused(BadBook, -2, way, (RIG, ()), (1, 0), 9, 8)
        self.refused(BadBook, 1, way, (RIG, ((), None)), (1, 0), 9, 8)
        for thing, where in NO_RIGS:
            self.refused(BadRig, where, way, (thing, None), (1, 0), 9, 8)
        for lot in NO_LOTS:
            self.refused(BadLot, -1, way, BOOK, lot, 0, 0)
            self.refused(BadLot, -1, way, BOOK, lot, 9, 8)
        for g in NOT_BELOW_THREE:
            self.refused(BadSetting, g, way, BOOK, (0, 1, 2), g, 0)
            self.refused(BadSetting, g, way, BOOK, (0, 1, 2), g, 8)
            self.refused(BadSetting, g, way, BOOK, (0, 1, 2), 0, g)
            self.refused(BadSetting, g, way, BOOK, (0, 1), 2, g)


if __name__ == "__main__":
    unittest.main()
