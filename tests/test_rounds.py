"""[25] rounds."""

import unittest

from tests.helping import (
    BOOK, NO_LOTS, NO_RIGS, RIG, Strict, greatest_rig, lots_of, many_lots, random_books,
)
from waryrig.errors import BadBook, BadLot, BadRig
from waryrig.free import free
from waryrig.regions import region
from waryrig.rigs import neighbours
from waryrig.rounds import round_walk
from waryrig.walks import is_walk


def of_moves(settings, moves, bars=None):
    """Return a book of three faults with these moves."""
    rig = (3, 1, ((0,),) * 3, ((0, 0, 0),) * settings, moves)
    return (rig, bars or ((),) * len(moves))


def plain_round(book, lot):
    """Reckon the round as its words say, by going on from setting to setting."""
    come = []

    def visit(g):
        come.append(g)
        steps = (g,)
        for there, move in neighbours(book[0], g):
            if there not in come and free(book, lot, move):
                steps += visit(there) + (g,)
        return steps

    return visit(0)


class Rounds(Strict):

    def test_the_example(self):
        self.same(round_walk(BOOK, (0, 1, 2)), (0, 1, 0))
        self.same(round_walk(book=BOOK, lot=(0, 1)), (0, 1, 0, 2, 0))

    def test_a_region_of_home_alone(self):
        self.same(round_walk((RIG, (((0,),), ((0,),))), (0,)), (0,))
        self.same(round_walk(of_moves(1, ()), (0, 1, 2)), (0,))
        self.same(round_walk(of_moves(3, ((1, 2),)), (0,)), (0,))
        self.same(round_walk(of_moves(1, ()), ()), (0,))

    def test_of_no_fault_all_moves_are_free(self):
        self.same(round_walk(BOOK, ()), (0, 1, 0, 2, 0))
        book = of_moves(4, ((0, 3), (1, 2), (1, 3)), (((0,),), ((0, 1, 2), (1,)), ((2,),)))
        self.same(round_walk(book, ()), (0, 3, 1, 2, 1, 3, 0))
        self.same(round_walk(book, (0,)), (0,))
        self.same(round_walk(book, (1,)), (0, 3, 1, 3, 0))
        self.same(round_walk(book, (2,)), (0, 3, 0))

    def test_the_least_that_was_not_come_to(self):
        book = of_moves(4, ((0, 1), (0, 2), (0, 3), (1, 3), (2, 3)))
        self.same(round_walk(book, (0,)), (0, 1, 3, 2, 3, 1, 0))
        book = of_moves(5, ((0, 2), (0, 4), (1, 4), (2, 3)))
        self.same(round_walk(book, (0,)), (0, 2, 3, 2, 0, 4, 1, 4, 0))

    def test_back_to_where_it_first_came_from(self):
        # From 4 there is a move to 0 and to 1, too, but it came from 3.
        book = of_moves(5, ((0, 1), (0, 4), (1, 2), (1, 4), (2, 3), (3, 4)))
        self.same(round_walk(book, (0,)), (0, 1, 2, 3, 4, 3, 2, 1, 0))

    def test_each_way_is_gone_twice(self):
        for book in random_books(80, 71):
            for lot in lots_of(book[0][0]):
                steps = round_walk(book, lot)
                self.assertEqual(len(steps), 2 * len(set(steps)) - 1)
                pairs = sorted(zip(steps, steps[1:]))
                self.assertEqual(pairs, sorted(zip(steps[1:], steps)))
                self.assertEqual(len(pairs), len(set(pairs)))

    def test_it_is_a_walk_through_the_region_and_all_of_it_is_free(self):
        for book in random_books(80, 72):
            for lot in lots_of(book[0][0]):
                steps = round_walk(book, lot)
                self.assertIs(is_walk(book[0], steps), True)
                self.assertEqual((steps[0], steps[-1]), (0, 0))
                self.same(tuple(sorted(set(steps))), region(book, lot, 0))
                for here, there in zip(steps, steps[1:]):
                    self.assertIs(free(book, lot, dict(neighbours(book[0], here))[there]), True)

    def test_reckoned_plainly(self):
        lengths = set()
        for book in random_books(150, 73):
            for lot in lots_of(book[0][0]):
                self.same(round_walk(book, lot), plain_round(book, lot))
                lengths.add(len(round_walk(book, lot)))
        self.assertEqual(lengths, {1, 3, 5, 7, 9, 11, 13})

    def test_great_books(self):
        line = of_moves(40, tuple((g, g + 1) for g in range(39)))
        there = tuple(range(40))
        self.same(round_walk(line, (0, 1, 2)), there + there[-2::-1])
        full = (greatest_rig(), (many_lots(200),) * 200)
        self.same(round_walk(full, tuple(range(24))), (0,))
        self.assertEqual(len(round_walk(full, ())), 79)

    def test_refusals_in_order(self):
        self.refused(BadBook, -1, round_walk, None, (1, 0))
        self.refused(BadBook, -2, round_walk, (RIG, ()), (1, 0))
        self.refused(BadBook, 1, round_walk, (RIG, ((), None)), (1, 0))
        for thing, where in NO_RIGS:
            self.refused(BadRig, where, round_walk, (thing, ()), (1, 0))
        for lot in NO_LOTS:
            self.refused(BadLot, -1, round_walk, BOOK, lot)


if __name__ == "__main__":
    unittest.main()
