"""[56] what binds; [57] as far as it speaks of books with fewer bars."""

import itertools
import random
import time
import unittest

from tests.helping import Strict, many_lots, random_books, replaced
from waryrig.binding import binding
from waryrig.books import is_book
from waryrig.free import without_bar
from waryrig.solver import solvable

# What is told within so many seconds is told quickly, on a busy machine, too.
SECONDS = 20

PAIR = (2, 2, ((0,), (1,)), ((0, 0), (0, 1)), ((0, 1),))


def plain_binding(book):
    """Go through the bars as the words say."""
    if solvable(book):
        return None
    left = book
    kept = []
    for move, lots in enumerate(book[1]):
        for lot in lots:
            if solvable(without_bar(left, move, lot)):
                kept.append((move, lot))
            else:
                left = without_bar(left, move, lot)
    return tuple(kept)


def barred_books(many, seed):
    """Return so many small books with many bars, most of which can be told apart without."""
    chance = random.Random(seed)
    found = []
    for _ in range(many):
        n = chance.randint(2, 5)
        settings = chance.randint(2, 5)
        pairs = list(itertools.combinations(range(settings), 2))
        moves = tuple(sorted(chance.sample(pairs, chance.randint(1, len(pairs)))))
        signs = tuple(tuple(chance.randint(0, 1 + (g > 0)) for _ in range(n)) for g in range(settings))
        cures = tuple((x,) for x in range(n))
        lots = [lot for size in (1, 2, 3) for lot in itertools.combinations(range(n), size)]
        bars = tuple(
            tuple(sorted(chance.sample(lots, chance.randint(0, min(4, len(lots)))))) for _ in moves)
        found.append(((n, n, cures, signs, moves), bars))
    return found


def with_bars(book, pairs):
    """Return the book with those bars of its rig alone."""
    return book[0], tuple(
        tuple(sorted(lot for at, lot in pairs if at == move)) for move in range(len(book[1])))


class Binding(Strict):

    def test_the_example(self):
        self.same(binding((PAIR, (((0,), (0, 1)),))), ((0, (0, 1)),))
        self.same(binding(book=(PAIR, (((0,), (0, 1), (1,)),))), ((0, (1,)),))

    def test_none_of_a_solvable_book(self):
        self.same(binding((PAIR, ((),))), None)
        told = 0
        for book in random_books(200, 321):
            self.assertIs(binding(book) is None, solvable(book))
            told += solvable(book)
        self.assertGreater(told, 20)

    def test_nothing_if_it_is_stuck_without_any_bars(self):
        never = replaced(PAIR, 3, ((0, 0), (0, 0)))
        for bars in ((), ((0,),), ((0,), (0, 1), (1,))):
            self.same(binding((never, (bars,))), ())
        self.same(binding(((1, 1, ((),), ((0,),), ()), ())), ())

    def test_bars_of_several_moves_in_order(self):
        # Both moves lead to what parts them, so both have to be barred.
        rig = (2, 2, ((0,), (1,)), ((0, 0), (0, 1), (1, 0)), ((0, 1), (0, 2)))
        book = (rig, (((0,), (1,)), ((0, 1), (1,))))
        self.same(binding(book), ((0, (1,)), (1, (1,))))
        self.same(binding((rig, (((0, 1),), ()))), None)

    def test_as_the_words_say(self):
        sizes = set()
        for book in barred_books(1500, 322) + random_books(300, 323):
            found = binding(book)
            self.same(found, plain_binding(book))
            sizes.add(None if found is None else len(found))
        self.assertTrue({None, 0, 1, 2, 3, 4} <= sizes)

    def test_none_of_them_can_be_spared(self):
        for book in barred_books(400, 324):
            found = binding(book)
            if found is not None:
                left = with_bars(book, found)
                self.assertIs(is_book(left), True)
                self.assertIs(solvable(left), False)
                for move, lot in found:
                    self.assertIs(solvable(without_bar(left, move, lot)), True)
                self.same(binding(left), found)

    def test_a_hundred_bars_quickly(self):
        begun = time.perf_counter()
        # Each setting but home shows one fault; all moves from home are barred by the
        # greatest fault, and by others for which it need not be so.
        cures = tuple((x % 16,) for x in range(24))
        signs = ((0,) * 24,) + tuple(tuple(int(x == g % 24) for x in range(24)) for g in range(1, 40))
        moves = tuple(sorted([(0, g) for g in range(1, 40)] + [(g, g + 1) for g in range(1, 39)]))
        bars = [[(23,)] if g == 0 else [] for g, _ in moves]
        for number in range(61):
            bars[number % len(moves)].append((number % 23, 23) if number % 2 else (number % 23,))
        book = ((24, 16, cures, signs, moves), tuple(tuple(sorted(lots)) for lots in bars))
        self.assertEqual(sum(map(len, bars)), 100)
        self.assertIs(is_book(book), True)
        found = binding(book)
        self.same(found, plain_binding(book))
        self.assertGreater(len(found), 20)
        self.assertLess(time.perf_counter() - begun, SECONDS)

    def test_more_bars_do_not_harm(self):
        begun = time.perf_counter()
        moves = tuple(itertools.combinations(range(21), 2))[:200]
        signs = ((0,) * 24,) + tuple((0,) * g + (1,) * (24 - g) for g in range(1, 21))
        rig = (24, 16, tuple((x % 16,) for x in range(24)), signs, moves)
        self.assertIsInstance(binding((rig, (many_lots(200),) * 200)), tuple)
        self.assertLess(time.perf_counter() - begun, SECONDS)

    def test_refusals(self):
        self.refuses_wrong_books(binding)


if __name__ == "__main__":
    unittest.main()
