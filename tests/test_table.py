"""[52] the table and the fullest book, [53] books beside one another, [0.3] (e)."""

import itertools
import random
import time
import unittest

from tests.helping import (
    BOOK, RIG, WRONG_BOOKS, Strict, random_books, reached, replaced,
)
from waryrig.books import is_book
from waryrig.closings import open_walk, open_with
from waryrig.ends import end, home, parting
from waryrig.errors import TooMany, Unlike
from waryrig.free import free, with_bar, without_bar
from waryrig.solver import code_for
from waryrig.table import alike, fullest, implies, table, telling
from waryrig.walks import safe

# What is told within so many seconds is told quickly, on a busy machine, too.
SECONDS = 20
BARE = (RIG, ((), ()))
TABLE = (((0,), (0, 1), (0, 1, 2), (0, 2), (1,), (1, 2), (2,)), ((0,), (0, 1), (1,)))
FULLEST = (RIG, ((), ((0, 1, 2), (0, 2), (1, 2), (2,))))


def bars_of(n):
    """Return all lots of one to three of n faults, ascending."""
    return sorted(lot for many in (1, 2, 3) for lot in itertools.combinations(range(n), many))


def plain_table(book):
    """Reckon the table as its words say."""
    lots = bars_of(book[0][0])
    return tuple(
        tuple(lot for lot in lots if open_with(book, move, lot)) for move in range(len(book[1])))


def plain_implies(one, two):
    """Reckon implies by all that safe walks in one come to."""
    for x in range(one[0][0]):
        for here, known in reached(one, x):
            for move, ends in enumerate(one[0][4]):
                if here in ends and free(one, known, move) and not free(two, known, move):
                    return False
    return True


def beside(chance, book):
    """Return a book of the same rig, mostly with a bar or two more or less."""
    for _ in range(chance.randint(0, 3)):
        moves = range(len(book[1]))
        if moves:
            move = chance.choice(moves)
            lot = chance.choice(bars_of(book[0][0]))
            if lot in book[1][move]:
                book = without_bar(book, move, lot)
            else:
                book = with_bar(book, move, lot)
    return book


def pairs_of_books(many, seed):
    """Return so many pairs of books of one rig, the same ones each time."""
    chance = random.Random(seed)
    return [(book, beside(chance, book)) for book in random_books(many, seed + 1)]


def great_book(chance, n, many):
    """Return a book of the greatest rig of n faults, with so many bars in all."""
    pairs = list(itertools.combinations(range(40), 2))
    moves = tuple(sorted(chance.sample(pairs, 200)))
    signs = tuple(tuple(int(chance.random() < 0.1) for _ in range(n)) for _ in range(40))
    rig = (n, 16, tuple((x % 16,) for x in range(n)), signs, moves)
    bars = [set() for _ in moves]
    for _ in range(many):
        bars[chance.randrange(200)].add(chance.choice(bars_of(n)))
    return (rig, tuple(tuple(sorted(lots)) for lots in bars))


class Tables(Strict):

    def test_the_example(self):
        self.same(table(BOOK), TABLE)
        self.same(table(book=BOOK), TABLE)

    def test_no_moves(self):
        self.same(table(((2, 1, ((),) * 2, ((0, 0),), ()), ())), ())

    def test_a_lot_that_home_parts(self):
        rig = (3, 1, ((),) * 3, ((0, 0, 1), (0, 0, 0)), ((0, 1),))
        self.same(table((rig, ((),))), (((0,), (0, 1), (1,), (2,)),))
        self.same(table((rig, (((0,),),))), (((2,),),))

    def test_of_open_with(self):
        for book in random_books(120, 231):
            self.same(table(book), plain_table(book))

    def test_two_books_let_the_same_exactly_if_their_tables_are_equal(self):
        told = [0, 0]
        for one, two in pairs_of_books(400, 232):
            due = all(reached(one, x) == reached(two, x) for x in range(one[0][0]))
            due = due and plain_implies(one, two) and plain_implies(two, one)
            self.assertIs(table(one) == table(two), due)
            self.assertIs(fullest(one) == fullest(two), due)
            told[due] += one != two
        self.assertGreater(min(told), 30)

    def test_ten_faults_and_eleven(self):
        for call in (table, fullest):
            self.assertIsInstance(call(((10, 1, ((),) * 10, ((0,) * 10,), ()), ())), tuple)
            for n in (11, 24):
                self.refused(TooMany, n, call, ((n, 1, ((),) * n, ((0,) * n,), ()), ()))

    def test_quickly(self):
        begun = time.perf_counter()
        chance = random.Random(233)
        for many in (0, 300, 3000, 60000):
            book = great_book(chance, 10, many)
            self.assertEqual(len(table(book)), 200)
            self.assertEqual(len(fullest(book)[1]), 200)
        self.assertLess(time.perf_counter() - begun, SECONDS)

    def test_quickly_with_as_many_bars_as_there_are(self):
        begun = time.perf_counter()
        book = great_book(random.Random(234), 10, 0)
        all_bars = tuple(bars_of(10))
        self.assertEqual(len(all_bars), 175)
        full = (book[0], (all_bars,) * 200)
        self.same(table(full), ((),) * 200)
        self.same(fullest(full), full)
        # Of each move all lots with one of its faults, so that most is still asked.
        some = tuple(tuple(lot for lot in all_bars if move % 10 in lot) for move in range(200))
        self.assertIs(alike((book[0], some), fullest((book[0], some))), True)
        self.assertLess(time.perf_counter() - begun, SECONDS)

    def test_refusals(self):
        self.refuses_wrong_books(table)


class Fullest(Strict):

    def test_the_example(self):
        self.same(fullest(BOOK), FULLEST)
        self.same(fullest(book=BOOK), FULLEST)

    def test_all_other_lots(self):
        for book in random_books(100, 235):
            found = fullest(book)
            self.assertIs(is_book(found), True)
            self.same(found[0], book[0])
            for opened, lots in zip(table(book), found[1]):
                self.assertEqual(sorted(opened + lots), bars_of(book[0][0]))

    def test_a_book_and_its_fullest_one_allow_the_same(self):
        for book in random_books(100, 236):
            full = fullest(book)
            self.assertIs(alike(book, full), True)
            self.same(table(full), table(book))
            self.same(fullest(full), full)
            for x in range(book[0][0]):
                self.assertEqual(reached(book, x), reached(full, x))

    def test_refusals(self):
        self.refuses_wrong_books(fullest)


class Beside(Strict):

    def test_the_example(self):
        self.assertIs(implies(BOOK, BARE), True)
        self.assertIs(implies(BARE, BOOK), False)
        self.assertIs(implies(one=BOOK, two=BARE), True)
        self.assertIs(alike(BARE, BOOK), False)
        self.assertIs(alike(one=BOOK, two=BOOK), True)
        self.same(telling(BARE, BOOK), (2, (0, 2)))
        self.same(telling(one=BOOK, two=BARE), None)

    def test_alike_books_that_are_written_otherwise(self):
        for bars in (((), ((0, 2), (2,))), FULLEST[1], ((), ((1, 2), (2,))), ((), ((0, 1, 2), (2,)))):
            other = (RIG, bars)
            self.assertIs(alike(BOOK, other), True)
            self.assertIs(alike(other, BOOK), True)
            self.assertIs(implies(BOOK, other), True)
            self.assertIs(implies(other, BOOK), True)
            self.same(telling(BOOK, other), None)
            self.same(telling(other, BOOK), None)
        # A bar of a move to which nobody comes does not matter.
        line = replaced(RIG, 4, ((0, 1), (1, 2)))
        never = tuple((x,) for x in range(3))
        self.assertIs(alike((line, (never, ())), (line, (never, never))), True)

    def test_one_way_only(self):
        for bars in (((), ((0,), (2,))), (((0, 1, 2),), ((2,),)), ((), ((0, 1), (2,)))):
            less = (RIG, bars)
            self.assertIs(implies(less, BOOK), True)
            self.assertIs(implies(BOOK, less), False)
            self.assertIs(alike(BOOK, less), False)
            self.assertIs(alike(less, BOOK), False)

    def test_neither_way(self):
        one, two = (RIG, ((), ((2,),))), (RIG, (((0,),), ()))
        for call in (implies, alike):
            self.assertIs(call(one, two), False)
            self.assertIs(call(two, one), False)

    def test_the_first_move_and_of_its_bars_the_first_lot(self):
        two = (RIG, (((1, 2),), ((0,), (1,))))
        self.same(telling(BARE, two), (1, (0, 1)))
        two = (RIG, ((), ((0, 1), (1,), (2,))))
        # With (0, 1) it is open, by the sign of setting 1; so fault 0 tells it.
        self.same(telling(BOOK, two), (0, (0, 1, 0, 2)))
        self.same(telling(BOOK, (RIG, ((), ((0, 2), (1,), (2,))))), (1, (0, 1, 0, 2)))

    def test_the_other_end_of_the_move_is_put_behind(self):
        # The walk ends at the greater end, as only that one can be come to.
        rig = replaced(RIG, 4, ((0, 1), (0, 2), (1, 2)))
        one = (rig, (((0,), (1,), (2,)), (), ()))
        self.same(telling(one, (rig, one[1][:2] + (((0,),),))), (0, (0, 2, 1)))

    def test_what_safe_walks_come_to(self):
        told = [0, 0]
        for one, two in pairs_of_books(400, 237):
            for first, second in ((one, two), (two, one)):
                due = plain_implies(first, second)
                self.assertIs(implies(first, second), due)
                told[due] += one != two
            due = plain_implies(one, two) and plain_implies(two, one)
            self.assertIs(alike(one, two), due)
        self.assertGreater(min(told), 50)

    def test_no_move_is_open_in_one_with_a_lot_of_its_bars_in_two(self):
        for one, two in pairs_of_books(200, 239):
            opened = [(move, lot) for move, lots in enumerate(two[1]) for lot in lots
                      if open_with(one, move, lot)]
            self.assertIs(implies(one, two), not opened)
            due = None
            if opened:
                move, lot = opened[0]
                walk = open_walk(one, move, lot)
                ends = one[0][4][move]
                due = (lot[0], walk + (ends[1] if walk[-1] == ends[0] else ends[0],))
            self.same(telling(one, two), due)

    def test_its_walk_is_safe_in_one_and_not_in_two(self):
        tried = 0
        for one, two in pairs_of_books(400, 241):
            found = telling(one, two)
            if found is not None:
                x, walk = found
                self.assertIs(safe(one, x, walk), True)
                self.assertIs(safe(two, x, walk), False)
                tried += 1
        self.assertGreater(tried, 50)

    def test_alike_books_have_the_same_ends_parting_and_code(self):
        tried = 0
        for one, two in pairs_of_books(500, 243) + [
                (book, fullest(book)) for book in random_books(100, 245)]:
            if one != two and alike(one, two):
                for x in range(one[0][0]):
                    self.same(end(one, x), end(two, x))
                self.same(parting(one), parting(two))
                self.same(code_for(one, home(one[0])), code_for(two, home(two[0])))
                tried += 1
        self.assertGreater(tried, 50)

    def test_of_more_than_ten_faults(self):
        rig = (24, 1, ((),) * 24, ((0,) * 24,) * 2, ((0, 1),))
        one, two = (rig, (((1, 22, 23),),)), (rig, (((22, 23),),))
        self.assertIs(implies(two, one), True)
        self.assertIs(alike(one, two), True)
        self.assertIs(implies((rig, ((),)), one), False)
        self.same(telling((rig, ((),)), one), (1, (0, 1)))

    def test_quickly(self):
        begun = time.perf_counter()
        chance = random.Random(246)
        for n in (10, 24):
            one = great_book(chance, n, 500)
            less = one
            for move in range(0, 200, 7):
                for lot in less[1][move][:1]:
                    less = without_bar(less, move, lot)
            self.assertIs(alike(one, one), True)
            self.assertIs(implies(one, less), True)
            self.same(telling(one, less), None)
            found = telling(less, one)
            self.assertIs(implies(less, one), found is None)
            if found is not None:
                self.assertIs(safe(less, *found), True)
                self.assertIs(safe(one, *found), False)
        self.assertLess(time.perf_counter() - begun, SECONDS)

    def test_refusals_in_order(self):
        for call in (implies, alike, telling):
            self.refuses_wrong_books(call, None)
            for thing, kind, what in WRONG_BOOKS:
                self.refused(kind, what, call, BOOK, thing)

    def test_unlike_rigs(self):
        others = [(replaced(RIG, 2, ((0,), (1,), ())), BOOK[1]), (replaced(RIG, 1, 4), BOOK[1]),
                  (replaced(RIG, 3, ((0, 0, 0),) * 3), BOOK[1]),
                  (replaced(RIG, 4, ((0, 1), (1, 2))), BOOK[1]), (replaced(RIG, 4, ()), ()),
                  ((1, 1, ((),), ((0,),), ()), ())]
        for other in others:
            for call in (implies, alike, telling):
                self.refused(Unlike, 0, call, BOOK, other)
                self.refused(Unlike, 0, call, other, BOOK)


if __name__ == "__main__":
    unittest.main()
