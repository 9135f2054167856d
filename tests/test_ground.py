"""The ground of waryrig/ground.py tells what region, way and free tell."""

import random
import unittest

from tests.helping import BOOK, Strict, greatest_rig, lots_of, many_lots, random_books, random_lot
from waryrig.free import free
from waryrig.ground import Ground
from waryrig.regions import joined_by_free, region


class Grounds(Strict):

    def compared(self, book, lots):
        ground = Ground(book)
        for lot in lots:
            self.same(ground.joined(lot), joined_by_free(book, lot))
            for g in range(len(book[0][3])):
                self.same(ground.region(lot, g), region(book, lot, g))
            for move in range(len(book[1])):
                self.assertIs(ground.is_free(lot, move), free(book, lot, move))

    def test_of_small_books(self):
        self.compared(BOOK, lots_of(3))
        for book in random_books(60, 161):
            self.compared(book, lots_of(book[0][0]) * 2)

    def test_of_a_great_book(self):
        chance = random.Random(162)
        ground = Ground((greatest_rig(), (many_lots(200),) * 200))
        for _ in range(20):
            lot = random_lot(chance, 24, 0.1)
            due = joined_by_free((greatest_rig(), (many_lots(200),) * 200), lot)
            self.same(ground.joined(lot), due)


if __name__ == "__main__":
    unittest.main()
