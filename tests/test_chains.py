"""[28] chains, [30] quickly."""

import itertools
import time
import unittest

from tests.helping import BOOK, RIG, Strict, longest_book, lots_of, random_books, replaced
from waryrig.chains import chain
from waryrig.kernel import chain_right
from waryrig.trips import course, trips


def plain_chain(book):
    """Reckon the chain as its words say."""
    if trips(book) is None:
        return None
    if trips(book) == 0:
        return ()
    courses = [course(book, x) for x in range(book[0][0])]
    for lots in courses:
        if len(lots) == trips(book) + 1:
            return lots[:-1][::-1]


class Chains(Strict):

    def test_the_example(self):
        self.same(chain(BOOK), ((0, 1), (0, 1, 2)))
        self.same(chain(book=BOOK), ((0, 1), (0, 1, 2)))

    def test_no_trips(self):
        self.same(chain((replaced(RIG, 2, ((0, 1), (1,), (1, 2))), BOOK[1])), ())
        self.same(chain(((1, 1, ((0,),), ((0,),), ()), ())), ())

    def test_one_trip(self):
        self.same(chain((RIG, ((), ()))), ((0, 1, 2),))

    def test_none_where_trips_is_none(self):
        self.same(chain((RIG, ((), ((0,), (2,))))), None)
        self.same(chain((replaced(RIG, 2, ((0,), (1,), ())), BOOK[1])), None)
        # There is none though no course has more than one lot.
        self.same(chain((RIG, (((0,),), ((0,),)))), None)

    def test_of_several_longest_courses_that_of_the_least_fault(self):
        cures = tuple((x,) for x in range(5))
        rig = (5, 5, cures, ((0,) * 5, (0, 1, 1, 2, 2), (0, 0, 1, 0, 1)), ((0, 1), (0, 2)))
        book = (rig, ((), ((0,),)))
        self.same([len(course(book, x)) for x in range(5)], [2, 3, 3, 3, 3])
        self.same(chain(book), ((1, 2), (0, 1, 2, 3, 4)))
        # Not that of the least lot either: fault 1 goes with 4 here.
        rig = replaced(rig, 3, ((0,) * 5, (0, 1, 2, 2, 1), (0, 0, 0, 1, 1)))
        self.same(chain((rig, ((), ((0,),)))), ((1, 4), (0, 1, 2, 3, 4)))

    def test_a_lot_that_is_done_is_not_in_it(self):
        cures = tuple((x,) for x in range(4))
        rig = (4, 4, cures, ((0,) * 4, (0, 0, 1, 2), (0, 1, 0, 0)), ((0, 1), (0, 2)))
        book = (replaced(rig, 2, ((0, 1), (1,), (2,), (3,))), ((), ((2,),)))
        self.same(chain(book), ((0, 1, 2, 3),))
        self.same(chain((rig, ((), ((2,),)))), ((0, 1), (0, 1, 2, 3)))

    def test_chain_right_lets_it_and_it_has_as_many_lots_as_trips_tells(self):
        lengths = set()
        for book in random_books(600, 111, 0.4):
            found = chain(book)
            self.same(found, plain_chain(book))
            if found is not None:
                self.assertIs(chain_right(book, found), True)
                self.assertEqual(len(found), trips(book))
                lengths.add(len(found))
        self.assertTrue({0, 1, 2} <= lengths)

    def test_no_longer_one_is_let_by(self):
        tried = 0
        for book in random_books(150, 112, 0.4):
            many = trips(book)
            if many is not None and many < 3:
                lots = lots_of(min(book[0][0], 4))
                for longer in itertools.combinations(lots, many + 1):
                    self.assertIs(chain_right(book, longer), False)
                    tried += 1
        self.assertGreater(tried, 1000)

    def test_quickly(self):
        begun = time.perf_counter()
        book = longest_book()
        found = chain(book)
        self.same(found, tuple(tuple(range(many)) for many in range(2, 25)))
        self.assertIs(chain_right(book, found), True)
        self.assertLess(time.perf_counter() - begun, 20)

    def test_refusals(self):
        self.refuses_wrong_books(chain)


if __name__ == "__main__":
    unittest.main()
