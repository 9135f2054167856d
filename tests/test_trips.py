"""[26] courses, [27] fewest trips, [29] trips that are made, [30] quickly, [0.3] (c)."""

import random
import time
import unittest

from tests.helping import (
    BOOK, CURES, RIG, Strict, greatest_rig, longest_book, many_lots, random_books, replaced,
)
from waryrig.ends import end, home
from waryrig.lots import agreeing, all_faults, done, remedies_for
from waryrig.papers import stuck
from waryrig.regions import region, way
from waryrig.rounds import round_walk
from waryrig.trips import course, run_trips, trips

# What is told within so many seconds is told quickly, on a busy machine, too.
SECONDS = 20


def plain_course(book, x):
    """Reckon the course as its words say."""
    known = all_faults(book[0])
    lots = (known,)
    while not done(book[0], known):
        lesser = agreeing(book[0], known, x, region(book, known, 0))
        if lesser == known:
            break
        known = lesser
        lots += (known,)
    return lots


def some_trip(chance, book, lot):
    """Return a walk from home and home again, all of it free at the lot."""
    steps = (0,)
    for _ in range(chance.randint(0, 3)):
        steps += way(book, lot, steps[-1], chance.choice(region(book, lot, 0)))[1:]
    return steps + way(book, lot, steps[-1], 0)[1:]


class Courses(Strict):

    def test_the_examples(self):
        self.same(course(BOOK, 0), ((0, 1, 2), (0, 1), (0,)))
        self.same(course(BOOK, 1), ((0, 1, 2), (0, 1), (1,)))
        self.same(course(book=BOOK, x=2), ((0, 1, 2), (2,)))

    def test_one_remedy_for_all(self):
        book = (replaced(RIG, 2, ((0, 1), (1,), (1, 2))), BOOK[1])
        for x in range(3):
            self.same(course(book, x), ((0, 1, 2),))
        self.same(course(((1, 1, ((0,),), ((0,),), ()), ()), 0), ((0,),))

    def test_the_first_lot_that_is_done_ends_it(self):
        book = (replaced(RIG, 2, ((0, 1), (1,), (2,))), BOOK[1])
        self.same(course(book, 0), ((0, 1, 2), (0, 1)))
        self.same(course(book, 2), ((0, 1, 2), (2,)))

    def test_what_no_trip_makes_less_ends_it_told_once(self):
        book = (RIG, ((), ((0,), (2,))))
        self.same(course(book, 0), ((0, 1, 2), (0, 1)))
        self.same(course(book, 1), ((0, 1, 2), (0, 1)))
        self.same(course(book, 2), ((0, 1, 2), (2,)))
        barred = (RIG, (((0,),), ((0,),)))
        for x in range(3):
            self.same(course(barred, x), ((0, 1, 2),))
        never = (replaced(RIG, 2, ((0,), (), (2,))), BOOK[1])
        self.same(course(never, 1), ((0, 1, 2), (0, 1), (1,)))

    def test_no_sign_is_known_at_the_start(self):
        # Home parts the faults, but only a trip tells it.
        book = ((2, 2, ((0,), (1,)), ((0, 1),), ()), ())
        self.same(course(book, 0), ((0, 1), (0,)))
        self.same(course(book, 1), ((0, 1), (1,)))
        # At what home shows the move would be free, but not at all faults.
        rig = (3, 3, CURES, ((0, 0, 1), (0, 1, 0)), ((0, 1),))
        book = (rig, (((2,),),))
        self.same(course(book, 0), ((0, 1, 2), (0, 1), (0,)))
        self.same(course(book, 1), ((0, 1, 2), (0, 1), (1,)))
        self.same(course(book, 2), ((0, 1, 2), (2,)))

    def test_a_round_is_free_at_its_beginning(self):
        # On the way the sign of setting 1 would let go on, but it is read at home.
        rig = (3, 3, CURES, ((0, 0, 0), (0, 0, 1), (0, 1, 0)), ((0, 1), (1, 2)))
        self.same(course((rig, ((), ((2,),))), 0), ((0, 1, 2), (0, 1), (0,)))
        self.same(course((rig, ((), ())), 0), ((0, 1, 2), (0,)))

    def test_reckoned_plainly(self):
        lengths = set()
        for book in random_books(400, 101, 0.4):
            for x in range(book[0][0]):
                due = plain_course(book, x)
                self.same(course(book, x), due)
                lengths.add(len(due))
        self.assertTrue({1, 2, 3} <= lengths)

    def test_whatever_recorder_is_read(self):
        # Behind j trips the lot at place j is still possible, however they are told.
        chance = random.Random(102)
        for book in random_books(200, 103, 0.3):
            for x in range(book[0][0]):
                known = all_faults(book[0])
                for lot in course(book, x):
                    self.assertTrue(set(lot) <= set(known))
                    known = agreeing(book[0], known, x, some_trip(chance, book, known))

    def test_refusals_in_order(self):
        self.refuses_wrong_books(course, 9)
        self.refuses_wrong_faults(course, (BOOK,))


class Trips(Strict):

    def test_the_example(self):
        self.same(trips(BOOK), 2)
        self.same(trips(book=BOOK), 2)

    def test_none_are_needed(self):
        self.same(trips((replaced(RIG, 2, ((0, 1), (1,), (1, 2))), BOOK[1])), 0)

    def test_home_alone_is_a_trip(self):
        self.same(trips(((2, 2, ((0,), (1,)), ((0, 1),), ()), ())), 1)

    def test_none_where_no_further_trip_makes_a_lot_less(self):
        self.same(trips((RIG, ((), ((0,), (2,))))), None)
        self.same(trips((replaced(RIG, 2, ((0,), (1,), ())), BOOK[1])), None)

    def test_the_greatest_of_all_courses(self):
        rig = (4, 4, ((0,), (1,), (2,), (3,)), ((0,) * 4, (1, 0, 0, 0), (0, 0, 1, 2)),
               ((0, 1), (1, 2)))
        book = (rig, ((), ((0,),)))
        self.same([len(course(book, x)) for x in range(4)], [2, 3, 3, 3])
        self.same(trips(book), 2)

    def test_of_all_courses_and_none_where_the_book_is_stuck(self):
        told = set()
        for book in random_books(500, 104, 0.4):
            courses = [plain_course(book, x) for x in range(book[0][0])]
            due = max(len(lots) for lots in courses) - 1
            if not all(done(book[0], lots[-1]) for lots in courses):
                due = None
            self.same(trips(book), due)
            self.assertIs(due is None, stuck(book, home(book[0])) is not None)
            told.add(due)
        self.assertTrue({None, 0, 1, 2} <= told)

    def test_all_of_the_end_can_be_had_by_trips(self):
        # Where nothing is ever done, the course goes on as far as any walk leads.
        for book in random_books(150, 105, 0):
            for x in range(book[0][0]):
                self.same(course(book, x)[-1], end(book, x)[0])

    def test_refusals(self):
        self.refuses_wrong_books(trips)


class RunTrips(Strict):

    def test_the_examples(self):
        self.same(run_trips(BOOK, 0), (((0, 1, 0), (0, 1, 0, 2, 0)), 0))
        self.same(run_trips(BOOK, 1), (((0, 1, 0), (0, 1, 0, 2, 0)), 1))
        self.same(run_trips(book=BOOK, x=2), (((0, 1, 0),), 2))

    def test_a_course_of_one_lot(self):
        book = (replaced(RIG, 2, ((1, 2), (0, 1, 2), (1, 2))), BOOK[1])
        for x in range(3):
            self.same(run_trips(book, x), ((), 1))
        book = (RIG, (((0,),), ((0,),)))
        self.same(run_trips(book, 0), ((), None))

    def test_the_remedy_none(self):
        book = (RIG, ((), ((0,), (2,))))
        self.same(run_trips(book, 0), (((0, 1, 0),), None))
        self.same(run_trips(book, 2), (((0, 1, 0),), 2))

    def test_home_alone_is_a_round(self):
        book = ((2, 2, ((0,), (1,)), ((0, 1),), ()), ())
        self.same(run_trips(book, 1), (((0,),), 1))

    def test_of_the_course(self):
        for book in random_books(250, 106, 0.4):
            for x in range(book[0][0]):
                lots = plain_course(book, x)
                rounds = tuple(round_walk(book, lot) for lot in lots[:-1])
                remedy = (remedies_for(book[0], lots[-1]) or (None,))[0]
                self.same(run_trips(book, x), (rounds, remedy))

    def test_the_remedy_cures_where_there_is_a_number_of_trips(self):
        for book in random_books(250, 107, 0.5):
            if trips(book) is not None:
                for x in range(book[0][0]):
                    rounds, remedy = run_trips(book, x)
                    self.assertIn(remedy, book[0][2][x])
                    self.assertLessEqual(len(rounds), trips(book))

    def test_refusals_in_order(self):
        self.refuses_wrong_books(run_trips, 9)
        self.refuses_wrong_faults(run_trips, (BOOK,))


class Quickly(Strict):

    def setUp(self):
        self.begun = time.perf_counter()

    def tearDown(self):
        self.assertLess(time.perf_counter() - self.begun, SECONDS)

    def test_many_lots_in_a_course(self):
        book = longest_book()
        due = tuple(tuple(range(many)) for many in range(24, 0, -1))
        self.same(course(book, 0), due)
        self.same(course(book, 9), due[:15] + ((9,),))
        self.same(trips(book), 23)
        rounds, remedy = run_trips(book, 0)
        self.same(rounds, tuple(round_walk(book, lot) for lot in due[:-1]))
        self.same(remedy, 0)
        self.same(tuple(len(set(steps)) for steps in rounds), tuple(range(2, 25)))

    def test_as_many_of_all_as_are_let(self):
        book = (greatest_rig(), (many_lots(200),) * 200)
        self.same(trips(book), 0)
        never = (replaced(greatest_rig(), 2, ((),) * 24), (many_lots(200),) * 200)
        for x in range(24):
            self.same(course(never, x), (tuple(range(24)),))
        self.same(run_trips(never, 0), ((), None))
        bare = (never[0], ((),) * 200)
        self.same(trips(bare), None)
        self.same(len(round_walk(never, ())), 79)


if __name__ == "__main__":
    unittest.main()
