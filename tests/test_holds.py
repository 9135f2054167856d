"""[57] lesser bars: no end's lot grows by them, nor do trips, and what was solvable stays so."""

import itertools
import random
import unittest

from tests.helping import Strict, lots_of, random_books, replaced
from waryrig.books import is_book
from waryrig.ends import end
from waryrig.free import without_bar
from waryrig.risks import least_risk, waived
from waryrig.solver import solvable
from waryrig.trips import trips

# More trips than any number that is told; so many are needed where none are enough.
NEVER = 1000


def bars_less(book):
    """Return the books with one bar less."""
    return [without_bar(book, move, lot) for move, lots in enumerate(book[1]) for lot in lots]


def moves_more(book):
    """Return the books with one move more, which has no bars."""
    rig, bars = book
    found = []
    for pair in itertools.combinations(range(len(rig[3])), 2):
        if pair not in rig[4]:
            moves = tuple(sorted(rig[4] + (pair,)))
            at = moves.index(pair)
            found.append((replaced(rig, 4, moves), bars[:at] + ((),) + bars[at:]))
    return found


def cures_more(book):
    """Return the books in which one remedy cures one fault more."""
    rig, bars = book
    found = []
    for x, r in itertools.product(range(rig[0]), range(rig[1])):
        if r not in rig[2][x]:
            entry = tuple(sorted(rig[2][x] + (r,)))
            found.append((replaced(rig, 2, replaced(rig[2], x, entry)), bars))
    return found


def last_fault_out(book):
    """Return the book without its last fault, and without the bars that name it."""
    (n, q, cures, signs, moves), bars = book
    if n == 1:
        return []
    bars = tuple(tuple(lot for lot in lots if n - 1 not in lot) for lots in bars)
    return [((n - 1, q, cures[:-1], tuple(row[:-1] for row in signs), moves), bars)]


def trips_needed(book):
    """Return a number that is greater for a book with which no trips do."""
    many = trips(book)
    return NEVER if many is None else many


class LesserBars(Strict):

    def lessened(self, change, seed, many=200):
        less = opened = sooner = 0
        for book in random_books(many, seed, 0.45):
            was = solvable(book)
            needed = trips_needed(book)
            for other in change(book):
                self.assertIs(is_book(other), True)
                for x in range(other[0][0]):
                    before = end(book, x)[0]
                    behind = end(other, x)[0]
                    self.assertTrue(set(behind) <= set(before))
                    less += len(behind) < len(before)
                self.assertIs(was and not solvable(other), False)
                opened += solvable(other) and not was
                self.assertLessEqual(trips_needed(other), needed)
                sooner += trips_needed(other) < needed < NEVER
        self.assertGreater(sooner, 5)
        return less, opened

    def test_a_bar_less(self):
        less, opened = self.lessened(bars_less, 81, 1500)
        self.assertGreater(less, 20)
        self.assertGreater(opened, 5)

    def test_a_move_more(self):
        less, opened = self.lessened(moves_more, 82)
        self.assertGreater(less, 20)
        self.assertGreater(opened, 5)

    def test_a_cure_more(self):
        less, opened = self.lessened(cures_more, 83)
        self.assertEqual(less, 0)
        self.assertGreater(opened, 5)

    def test_a_fault_less(self):
        less, opened = self.lessened(last_fault_out, 84)
        self.assertGreater(less, 20)
        self.assertGreater(opened, 5)

    def test_no_bars_at_all(self):
        for book in random_books(60, 85):
            free_of_bars = (book[0], ((),) * len(book[1]))
            self.assertIs(solvable(book) and not solvable(free_of_bars), False)

    def test_more_that_is_waived(self):
        opened = 0
        chance = random.Random(86)
        for book in random_books(400, 87, 0.45):
            grades = tuple(tuple(chance.randint(1, 9) for _ in lots) for lots in book[1])
            ahead = book
            for g in range(10):
                other = waived(book, grades, g)
                self.assertIs(solvable(ahead) and not solvable(other), False)
                self.assertLessEqual(trips_needed(other), trips_needed(ahead))
                opened += solvable(other) and not solvable(ahead)
                for x in range(book[0][0]):
                    self.assertTrue(set(end(other, x)[0]) <= set(end(ahead, x)[0]))
                ahead = other
            risk = least_risk(book, grades)
            self.assertIs(risk is None, not solvable(ahead))
            # A bar that goes leaves no greater risk.
            for move, lots in enumerate(book[1]):
                for at, lot in enumerate(lots):
                    row = grades[move][:at] + grades[move][at + 1:]
                    less = least_risk(without_bar(book, move, lot), replaced(grades, move, row))
                    self.assertIs(less is None, risk is None)
                    self.assertTrue(risk is None or less <= risk)
        self.assertGreater(opened, 5)

    def test_a_bar_of_each_lot_in_turn(self):
        # The more a bar names, the less it bars.
        rig = (3, 3, ((0,), (1,), (2,)), ((0, 0, 0), (0, 1, 2)), ((0, 1),))
        for lot in lots_of(3)[1:]:
            self.assertIs(solvable((rig, ((lot,),))), False)
        rig = replaced(rig, 3, ((0, 0, 1), (0, 1, 2)))
        for lot in lots_of(3)[1:]:
            self.assertIs(solvable((rig, ((lot,),))), lot not in ((0,), (1,), (0, 1)))


if __name__ == "__main__":
    unittest.main()
