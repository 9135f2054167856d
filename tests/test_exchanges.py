"""[60] exchanges: from one order to another."""

import itertools
import unittest

from tests.helping import BOOK, NO_TUPLES, Strict, random_books
from waryrig.ends import end
from waryrig.errors import NotOrder
from waryrig.exchanges import exchanged, exchanges
from waryrig.orders import order_right

# The book of the example: three settings that are each joined with home.
STAR = ((1, 1, ((0,),), ((0,),) * 4, ((0, 1), (0, 2), (0, 3))), ((),) * 3)


def plain_exchanges(one, two):
    """Reckon the places as the words say."""
    row = list(one)
    places = []
    for due, g in enumerate(two):
        at = row.index(g)
        while at > due:
            row[at - 1], row[at] = row[at], row[at - 1]
            at -= 1
            places.append(at)
    return tuple(places)


def other_way_round(one, two):
    """Return how many pairs of settings stand the other way round in two than in one."""
    return sum(
        (one.index(g) < one.index(h)) != (two.index(g) < two.index(h))
        for g, h in itertools.combinations(one, 2))


class Exchanged(Strict):

    def test_two_neighbours_change_places(self):
        self.same(exchanged((0, 3, 2, 1), 2), (0, 3, 1, 2))
        self.same(exchanged((0, 3, 1, 2), 1), (0, 1, 3, 2))
        self.same(exchanged(order=(0, 1, 3, 2), i=2), (0, 1, 2, 3))
        self.same(exchanged((4, 7), 0), (7, 4))
        self.same(exchanged((4, 7, 9), 0), (7, 4, 9))
        self.same(exchanged((5, 5, 6), 0), (5, 5, 6))

    def test_twice_is_nothing(self):
        order = tuple(range(40))
        for i in range(39):
            there = exchanged(order, i)
            self.assertEqual(len(there), 40)
            self.assertEqual([g for g in range(40) if there[g] != g], [i, i + 1])
            self.same(exchanged(there, i), order)


class Exchanges(Strict):

    def test_the_example(self):
        self.same(exchanges(STAR, 0, (0, 3, 2, 1), (0, 1, 2, 3)), (2, 1, 2))
        self.same(exchanges(book=STAR, x=0, one=(0, 1, 2, 3), two=(0, 3, 2, 1)), (2, 1, 2))
        self.same(exchanges(STAR, 0, (0, 1, 2, 3), (0, 3, 1, 2)), (2, 1))

    def test_one_and_the_same_order(self):
        self.same(exchanges(STAR, 0, (0, 2, 3, 1), (0, 2, 3, 1)), ())
        self.same(exchanges(BOOK, 2, (0, 1), (0, 1)), ())
        self.same(exchanges(((1, 1, ((),), ((0,),), ()), ()), 0, (0,), (0,)), ())

    def test_behind_each_exchange_there_is_an_order(self):
        told = 0
        for book in random_books(250, 351):
            for x in range(book[0][0]):
                settings = end(book, x)[1]
                orders = [order for order in itertools.permutations(settings[:6])
                          if order_right(book, x, order)][:6]
                for one, two in itertools.product(orders, orders):
                    places = exchanges(book, x, one, two)
                    self.same(places, plain_exchanges(one, two))
                    self.assertEqual(len(places), other_way_round(one, two))
                    now = one
                    for i in places:
                        now = exchanged(now, i)
                        self.same(order_right(book, x, now), True)
                    self.same(now, two)
                    told += len(places) > 1
        self.assertGreater(told, 200)

    def test_as_many_as_can_be(self):
        moves = tuple((0, g) for g in range(1, 40))
        book = ((1, 1, ((0,),), ((0,),) * 40, moves), ((),) * 39)
        back = (0,) + tuple(range(39, 0, -1))
        places = exchanges(book, 0, back, tuple(range(40)))
        self.assertEqual(len(places), 39 * 38 // 2)
        self.assertEqual(places[:39], tuple(range(38, 0, -1)) + (38,))

    def test_not_orders(self):
        good = (0, 1, 2, 3)
        wrong = NO_TUPLES + (
            (), (0,), (0, 1, 2), (1, 0, 2, 3), (0, 1, 1, 2), (0, 1, 2, 4), (0, True, 2, 3),
            (0, 1, 2, 3, 3), (0, 1, 2, None))
        for order in wrong:
            self.refused(NotOrder, 0, exchanges, STAR, 0, order, good)
            self.refused(NotOrder, 1, exchanges, STAR, 0, good, order)
            self.refused(NotOrder, 0, exchanges, STAR, 0, order, order)
        self.refused(NotOrder, 0, exchanges, BOOK, 2, (0, 1, 2), (0, 1))
        self.refused(NotOrder, 1, exchanges, BOOK, 0, (0, 1, 2), (0, 2, 1))

    def test_refusals_in_order(self):
        self.refuses_wrong_books(exchanges, None, None, None)
        self.refuses_wrong_faults(exchanges, (BOOK,), (None, None))


if __name__ == "__main__":
    unittest.main()
