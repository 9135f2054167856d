"""[58], [59] orders and their numbers, [61] what an order tells of walks."""

import itertools
import math
import random
import time
import unittest

from tests.helping import (
    ANYTHING, BOOK, NOT_BELOW_THREE, NO_NUMBERS, NO_TUPLES, RIG, WRONG_BOOKS, Strict, greatest_rig,
    longest_book, many_lots, random_books,
)
from waryrig.ends import end
from waryrig.errors import BadNumber, NotOrder, TooMany
from waryrig.free import free
from waryrig.lots import agreeing, all_faults
from waryrig.orders import count_orders, first_order, nth_order, number_of, order_right
from waryrig.rigs import neighbours
from waryrig.walks import safe, seen

# What is told within so many seconds is told quickly, on a busy machine, too.
SECONDS = 20


def star(settings):
    """Return a book without bars, in which each setting is joined with home alone."""
    moves = tuple((0, g) for g in range(1, settings))
    return (1, 1, ((0,),), ((0,),) * settings, moves), ((),) * len(moves)


def can_follow(book, x, ahead, g):
    """Tell whether the setting can be come to first behind those."""
    rig = book[0]
    if not ahead:
        return g == 0
    known = agreeing(rig, all_faults(rig), x, tuple(ahead))
    return any(h in ahead and free(book, known, move) for h, move in neighbours(rig, g))


def is_plain_order(book, x, order):
    """Tell whether this is an order, as the words say."""
    if sorted(order) != list(end(book, x)[1]):
        return False
    return all(can_follow(book, x, order[:at], g) for at, g in enumerate(order))


def plain_orders(book, x):
    """Return all orders under x, rising."""
    orders = [()]
    settings = end(book, x)[1]
    for _ in settings:
        orders = [order + (g,) for order in orders for g in settings
                  if g not in order and can_follow(book, x, order, g)]
    return orders


def small_books(many, seed):
    """Return so many small books and faults, with last regions of few settings."""
    found = [(book, x) for book in random_books(many, seed) for x in range(book[0][0])]
    return [(book, x) for book, x in found if len(end(book, x)[1]) <= 6]


def walk_of(book, x, order):
    """Go from each setting of the order to the next one by settings come to already."""
    rig = book[0]
    walk = (0,)
    for at in range(1, len(order)):
        known = agreeing(rig, all_faults(rig), x, order[:at])
        ways = [(walk[-1],)]
        while not any(steps[-1] == order[at] for steps in ways):
            ways = [steps + (h,) for steps in ways for h, move in neighbours(rig, steps[-1])
                    if free(book, known, move) and h in order[:at + 1] and h not in steps]
        walk += next(steps for steps in ways if steps[-1] == order[at])[1:]
    return walk


class OrderRight(Strict):

    def test_the_examples(self):
        self.same(order_right(BOOK, 0, (0, 1, 2)), True)
        self.same(order_right(BOOK, 1, (0, 1, 2)), True)
        self.same(order_right(BOOK, 2, (0, 1)), True)
        for order in ((0, 2, 1), (0, 1), (0,), (1, 0, 2), (0, 2)):
            self.same(order_right(BOOK, 0, order), False)
        for order in ((0, 1, 2), (0, 2), (0,), (1, 0)):
            self.same(order_right(book=BOOK, x=2, order=order), False)

    def test_wrong_orders(self):
        book = star(4)
        self.same(order_right(book, 0, (0, 3, 1, 2)), True)
        wrong = (
            (1, 0, 2, 3), (1, 2, 3, 0), (0, 1, 1, 2), (0, 0, 1, 2), (0, 1, 2, 2), (0, 1, 2), (),
            (0,), (0, 1, 2, 3, 3), (0, 1, 2, 3, 0), (0, 1, 2, 4), (0, 1, 2, -1), (0, True, 2, 3),
            (False, 1, 2, 3), (0, 1, 2, "3"), (0, 1, 2, None), (0, 1, 2, (3,)), ((0, 1, 2, 3),),
            (0, 1, 2, 10 ** 30), (0, 1, 2, -10 ** 30), (None,) * 4, ((),) * 4,
        )
        for order in wrong + NO_TUPLES:
            self.same(order_right(book, 0, order), False)

    def test_true_is_no_number(self):
        self.same(order_right(star(2), 0, (0, True)), False)
        self.same(order_right(star(1), 0, (False,)), False)
        self.same(order_right(star(1), 0, (0,)), True)

    def test_beyond_the_last_region(self):
        # The last setting is there, but nothing leads to it.
        book = ((1, 1, ((0,),), ((0,),) * 3, ((0, 1),)), ((),))
        self.same(order_right(book, 0, (0, 1)), True)
        self.same(order_right(book, 0, (0, 1, 2)), False)
        self.same(order_right(book, 0, (0, 2)), False)
        book = ((1, 1, ((0,),), ((0,),) * 3, ((0, 1), (0, 2))), ((), ((0,),)))
        self.same(order_right(book, 0, (0, 1)), True)
        self.same(order_right(book, 0, (0, 1, 2)), False)

    def test_what_opens_only_once_others_stand_ahead(self):
        # Setting 3 rules fault 1 out, and then 1 can be come to; behind 1, the bar of 2 ends.
        signs = ((0, 0, 0), (0, 0, 1), (0, 0, 0), (0, 1, 0))
        rig = (3, 1, ((0,),) * 3, signs, ((0, 1), (0, 2), (0, 3), (1, 2)))
        book = (rig, (((0, 1),), ((1,), (2,)), (), ((2,),)))
        for order in itertools.permutations(range(4)):
            self.same(order_right(book, 0, order), order == (0, 3, 1, 2))
        # The sign of the very setting that is come to counts only for what is behind it.
        book = ((2, 1, ((0,),) * 2, ((0, 0), (0, 1)), ((0, 1),)), (((1,),),))
        self.same(order_right(book, 0, (0, 1)), False)
        self.same(order_right(book, 0, (0,)), True)

    def test_the_sign_of_home_counts(self):
        book = ((2, 1, ((0,),) * 2, ((0, 1), (0, 0)), ((0, 1),)), (((1,),),))
        self.same(order_right(book, 0, (0, 1)), True)
        self.same(order_right(book, 1, (0,)), True)
        self.same(order_right(book, 1, (0, 1)), False)

    def test_as_the_words_say(self):
        told = [0, 0]
        for book, x in small_books(250, 331):
            settings = range(len(book[0][3]))
            chance = random.Random(332)
            orders = list(itertools.permutations(end(book, x)[1]))
            orders = chance.sample(orders, min(len(orders), 30))
            orders += [tuple(chance.sample(settings, chance.randint(0, len(settings))))
                       for _ in range(10)]
            for order in orders:
                found = order_right(book, x, order)
                self.same(found, is_plain_order(book, x, order))
                told[found] += 1
        self.assertGreater(min(told), 500)

    def test_a_judge_of_all_three(self):
        for thing, _, _ in WRONG_BOOKS:
            self.same(order_right(thing, 0, (0,)), False)
        for x in NOT_BELOW_THREE:
            self.same(order_right(BOOK, x, (0, 1, 2)), False)
        for thing in ANYTHING:
            self.same(order_right(thing, 0, (0,)), False)
            self.same(order_right(BOOK, 0, thing), thing == (0, 1, 2))
            if type(thing) is not int:
                self.same(order_right(BOOK, thing, (0, 1, 2)), False)


class FirstOrder(Strict):

    def test_the_examples(self):
        self.same(first_order(BOOK, 0), (0, 1, 2))
        self.same(first_order(BOOK, 1), (0, 1, 2))
        self.same(first_order(book=BOOK, x=2), (0, 1))

    def test_the_least_of_all(self):
        unlike = 0
        for book, x in small_books(400, 333):
            found = first_order(book, x)
            self.same(found, plain_orders(book, x)[0])
            unlike += found != end(book, x)[1]
        self.assertGreater(unlike, 50)

    def test_great_books(self):
        self.same(first_order((greatest_rig(), ((),) * 200), 5), tuple(range(40)))
        self.same(first_order((greatest_rig(), (many_lots(200),) * 200), 5), (0,))
        book = longest_book()
        for x in (0, 1, 12, 23):
            order = first_order(book, x)
            self.same(tuple(sorted(order)), end(book, x)[1])
            self.same(order_right(book, x, order), True)

    def test_refusals_in_order(self):
        self.refuses_wrong_books(first_order, None)
        self.refuses_wrong_faults(first_order, (BOOK,))


class Numbers(Strict):

    def test_the_examples(self):
        for x, order in ((0, (0, 1, 2)), (1, (0, 1, 2)), (2, (0, 1))):
            self.same(count_orders(BOOK, x), 1)
            self.same(nth_order(BOOK, x, 0), order)
            self.same(number_of(BOOK, x, order), 0)
        self.same(count_orders(book=BOOK, x=0), 1)
        self.same(nth_order(book=BOOK, x=0, k=0), (0, 1, 2))
        self.same(number_of(book=BOOK, x=2, order=(0, 1)), 0)

    def test_home_alone(self):
        book = ((1, 1, ((),), ((0,),), ()), ())
        self.same(count_orders(book, 0), 1)
        self.same(nth_order(book, 0, 0), (0,))
        self.same(number_of(book, 0, (0,)), 0)
        self.refused(BadNumber, 1, nth_order, book, 0, 1)

    def test_there_and_back(self):
        most = 0
        for book, x in small_books(400, 334):
            orders = plain_orders(book, x)
            self.same(count_orders(book, x), len(orders))
            self.same([nth_order(book, x, k) for k in range(len(orders))], orders)
            self.same([number_of(book, x, order) for order in orders], list(range(len(orders))))
            self.same(nth_order(book, x, 0), first_order(book, x))
            most = max(most, len(orders))
        self.assertGreater(most, 30)

    def test_bad_numbers(self):
        for book, many in ((BOOK, 1), (star(4), 6), (star(1), 1)):
            for k in NO_NUMBERS + (-1, many, many + 1, 10 ** 30, -10 ** 30):
                self.refused(BadNumber, k, nth_order, book, 0, k)

    def test_not_orders(self):
        for order in NO_TUPLES + ((), (0, 2, 1), (0, 1), (0, 1, 2, 2), (0, True, 2), (1, 0, 2)):
            self.refused(NotOrder, 0, number_of, BOOK, 0, order)
        self.refused(NotOrder, 0, number_of, BOOK, 2, (0, 1, 2))

    def test_twelve_settings_quickly(self):
        begun = time.perf_counter()
        book = star(12)
        many = math.factorial(11)
        self.same(many, 39916800)
        self.same(count_orders(book, 0), many)
        self.same(nth_order(book, 0, 0), tuple(range(12)))
        self.same(nth_order(book, 0, many - 1), (0,) + tuple(range(11, 0, -1)))
        self.same(nth_order(book, 0, 10 * math.factorial(10)), (0, 11) + tuple(range(1, 11)))
        self.refused(BadNumber, many, nth_order, book, 0, many)
        chance = random.Random(335)
        ahead = -1, ()
        for k in sorted(chance.sample(range(many), 60)):
            order = nth_order(book, 0, k)
            self.same(number_of(book, 0, order), k)
            self.same(order_right(book, 0, order), True)
            self.assertLess(ahead[1], order)
            ahead = k, order
        self.assertLess(time.perf_counter() - begun, SECONDS)

    def test_twelve_settings_with_many_bars_quickly(self):
        begun = time.perf_counter()
        chance = random.Random(336)
        moves = tuple(itertools.combinations(range(12), 2))
        signs = ((0,) * 24,) + tuple(
            (0,) + tuple(int(chance.random() < 0.5) for _ in range(23)) for _ in range(11))
        lots = [lot for lot in itertools.combinations(range(1, 24), 3)]
        bars = tuple(
            () if low == 0 and high < 5 else tuple(sorted(chance.sample(lots, 200))) for low, high in moves)
        book = ((24, 16, ((0,),) * 24, signs, moves), bars)
        self.assertEqual(len(end(book, 0)[1]), 12)
        many = count_orders(book, 0)
        self.assertTrue(1000 < many < 39916800)
        for k in (0, 1, many // 2, many - 1):
            order = nth_order(book, 0, k)
            self.assertTrue(is_plain_order(book, 0, order))
            self.same(number_of(book, 0, order), k)
        self.assertLess(time.perf_counter() - begun, SECONDS)

    def test_thirteen_settings_are_too_many(self):
        for many in (13, 14, 40):
            book = star(many)
            self.refused(TooMany, many, count_orders, book, 0)
            for k in (0, -1, None, True):
                self.refused(TooMany, many, nth_order, book, 0, k)
            for order in (tuple(range(many)), (), None):
                self.refused(TooMany, many, number_of, book, 0, order)
        # What counts is the last region, not how many settings the rig has.
        rig, bars = star(40)
        bars = tuple(((0,),) if move > 10 else () for move in range(39))
        self.same(count_orders((rig, bars), 0), 39916800)
        self.refused(TooMany, 13, count_orders, (rig, ((),) + bars[:-1]), 0)

    def test_refusals_in_order(self):
        self.refuses_wrong_books(count_orders, None)
        self.refuses_wrong_faults(count_orders, (BOOK,))
        for call in (nth_order, number_of):
            self.refuses_wrong_books(call, None, None)
            self.refuses_wrong_faults(call, (BOOK,), (None,))


class Walks(Strict):

    def test_each_order_tells_a_safe_walk_to_the_end(self):
        walks = 0
        for book, x in small_books(250, 337):
            lot, settings = end(book, x)
            for order in plain_orders(book, x):
                walk = walk_of(book, x, order)
                self.same(safe(book, x, walk), True)
                self.same(seen(book[0], x, walk), lot)
                self.same(tuple(sorted(set(walk))), settings)
                walks += len(walk) > 3
        self.assertGreater(walks, 300)

    def test_each_safe_walk_to_all_of_the_last_region_tells_an_order(self):
        chance = random.Random(338)
        told = set()
        for book, x in small_books(150, 339):
            walk = (0,)
            for _ in range(60):
                known = seen(book[0], x, walk)
                near = [h for h, move in neighbours(book[0], walk[-1]) if free(book, known, move)]
                if near:
                    walk += (chance.choice(near),)
            order = tuple(dict.fromkeys(walk))
            if len(order) == len(end(book, x)[1]):
                self.same(order_right(book, x, order), True)
                told.add(order)
        self.assertGreater(len(told), 30)

    def test_whatever_stands_ahead_each_setting_comes_to_be_possible(self):
        for book, x in small_books(150, 340):
            settings = end(book, x)[1]
            ahead = [[0]]
            while ahead:
                order = ahead.pop()
                further = [g for g in settings if g not in order and can_follow(book, x, order, g)]
                self.assertEqual(bool(further), len(order) < len(settings))
                ahead += [order + [g] for g in further][:2]

    def test_the_example_book_is_of_its_rig(self):
        self.assertIs(BOOK[0], RIG)


if __name__ == "__main__":
    unittest.main()
