"""[47] recorders that err, [0.3] (d)."""

import collections
import random
import unittest

from tests.helping import (
    BOOK, CODE, NO_ENTRIES, NO_NUMBERS, NO_RIGS, NO_TUPLES, RIG, Strict, random_books, replaced,
)
from waryrig.codes import run_code
from waryrig.ends import home
from waryrig.erring import alive, run_erring
from waryrig.errors import BadLies, BadLooks, BadNumber, BadRig, Stuck
from waryrig.free import free
from waryrig.papers import stuck
from waryrig.rigs import neighbours
from waryrig.solver import code_for, solvable

PAIR = (2, 2, ((0,), (1,)), ((0, 0), (0, 1)), ((0, 1),))
# The book of the example.
PAIR_BOOK = (PAIR, ((),))
STUCK = (RIG, ((), ((0,), (2,))))
NO_ERRORS = NO_NUMBERS + (-1, 5, 10 ** 30)


def plain_erring(book, e, x, lies):
    """Reckon run_erring as its words say: by what comes most among the looks.

    The pairs of the looks so far and the move that is then made are told, too.
    """
    rig = book[0]
    code = code_for(book, home(rig))
    told = dict(lies)
    walk, looks, gone = (), [], []

    def come(g):
        here = []
        for _ in range(2 * e + 1):
            here.append(told.get(len(looks), rig[3][g][x]))
            looks.append((g, here[-1]))
        return walk + (g,), collections.Counter(here).most_common(1)[0][0]

    walk, sign = come(0)
    row = code[-1]
    while True:
        for g in row[1]:
            gone.append((tuple(looks), dict(neighbours(rig, walk[-1]))[g]))
            walk, sign = come(g)
        if row[0] == "cure":
            return (walk, row[2], tuple(looks)), gone
        row = code[dict(row[2])[sign]]


class Alive(Strict):

    def test_the_example(self):
        looks = ((0, 1), (0, 0), (0, 0), (1, 0), (1, 0), (1, 0))
        self.same(alive(PAIR, 1, looks), (0,))
        self.same(alive(rig=PAIR, e=1, looks=looks), (0,))

    def test_no_looks(self):
        for e in range(5):
            self.same(alive(RIG, e, ()), (0, 1, 2))

    def test_at_most_e_times(self):
        # Fault 0 shows another sign n times, 1 never, 2 once less than 0.
        rig = (3, 1, ((),) * 3, ((0, 0, 0), (0, 1, 1), (0, 1, 0)), ())
        for many in range(1, 7):
            looks = ((1, 1),) * (many - 1) + ((0, 0), (2, 1))
            for e in range(5):
                due = tuple(x for x, wrong in ((0, many), (1, 0), (2, 1)) if wrong <= e)
                self.same(alive(rig, e, looks), due)

    def test_a_look_counts_as_often_as_it_stands_there(self):
        self.same(alive(PAIR, 1, ((1, 1),)), (0, 1))
        self.same(alive(PAIR, 1, ((1, 1),) * 2), (1,))
        self.same(alive(PAIR, 1, ((1, 1), (1, 0), (1, 1))), (1,))
        self.same(alive(PAIR, 1, ((1, 1), (1, 0)) * 2), ())
        self.same(alive(PAIR, 4, ((1, 1),) * 4), (0, 1))
        self.same(alive(PAIR, 4, ((1, 1),) * 5), (1,))

    def test_without_errors(self):
        self.same(alive(RIG, 0, ((1, 0),)), (0, 1))
        self.same(alive(RIG, 0, ((1, 0), (2, 1), (1, 0))), (1,))
        self.same(alive(RIG, 0, ((0, 9),)), ())

    def test_reckoned_plainly(self):
        chance = random.Random(201)
        for book in random_books(200, 202):
            rig = book[0]
            looks = tuple((chance.randrange(len(rig[3])), chance.randint(0, 2))
                          for _ in range(chance.randint(0, 12)))
            for e in range(5):
                due = tuple(x for x in range(rig[0])
                            if [rig[3][g][x] == sign for g, sign in looks].count(False) <= e)
                self.same(alive(rig, e, looks), due)

    def test_refusals_in_order(self):
        for thing, where in NO_RIGS:
            self.refused(BadRig, where, alive, thing, 9, None)
        for e in NO_ERRORS:
            self.refused(BadNumber, e, alive, RIG, e, None)
        for looks in NO_TUPLES:
            self.refused(BadLooks, -1, alive, RIG, 0, looks)
        for look in NO_ENTRIES:
            self.refused(BadLooks, 0, alive, RIG, 4, (look,))
            self.refused(BadLooks, 2, alive, RIG, 0, ((1, 5), (2, 0), look, None))
        self.refused(BadLooks, 0, alive, RIG, 0, (1, 0))


class Runs(Strict):

    def test_the_example(self):
        due = ((0, 1), 0, ((0, 1), (0, 0), (0, 0), (1, 0), (1, 0), (1, 0)))
        self.same(run_erring(PAIR_BOOK, 1, 0, ((0, 1),)), due)
        self.same(run_erring(book=PAIR_BOOK, e=1, x=0, lies=((0, 1),)), due)

    def test_without_errors(self):
        for x in range(3):
            walk, last = run_code(BOOK, CODE, home(RIG), x)
            looks = tuple((g, RIG[3][g][x]) for g in walk)
            self.same(run_erring(BOOK, 0, x, ()), (walk, last[1], looks))

    def test_as_many_looks_at_each_setting_come_to(self):
        # Also at home on the way back, where no row looks.
        for e in range(5):
            for x in range(3):
                walk, remedy, looks = run_erring(BOOK, e, x, ())
                self.same(walk, (0, 1) if x == 2 else (0, 1, 0, 2))
                self.same(remedy, x)
                many = 2 * e + 1
                self.same(looks, tuple((g, RIG[3][g][x]) for g in walk for _ in range(many)))

    def test_no_row_looks_anywhere(self):
        book = ((1, 1, ((0,),), ((7,),), ()), ())
        self.same(run_erring(book, 4, 0, ((8, 1),)), ((0,), 0, ((0, 7),) * 8 + ((0, 1),)))

    def test_a_lie_that_tells_the_true_sign(self):
        due = ((0, 1), 1, ((0, 0),) * 3 + ((1, 1),) * 3)
        self.same(run_erring(PAIR_BOOK, 1, 1, ((4, 1),)), due)
        self.same(run_erring(PAIR_BOOK, 1, 1, ()), due)

    def test_a_number_beyond_the_looks_changes_nothing(self):
        due = ((0, 1), 1, ((0, 0),) * 3 + ((1, 1),) * 3)
        for number in (6, 7, 5000, 10 ** 30):
            self.same(run_erring(PAIR_BOOK, 1, 1, ((number, 0),)), due)
        due = ((0, 1), 1, ((0, 0),) * 3 + ((1, 1),) * 2 + ((1, 0),))
        self.same(run_erring(PAIR_BOOK, 1, 1, ((5, 0),)), due)

    def test_all_lies_at_one_setting(self):
        for e in range(1, 5):
            many = 2 * e + 1
            for first in (many, many + 1, 2 * many - e):
                lies = tuple((first + k, 0) for k in range(e))
                walk, remedy, looks = run_erring(PAIR_BOOK, e, 1, lies)
                self.same((walk, remedy), ((0, 1), 1))
                self.same([sign for _, sign in looks].count(1), e + 1)

    def test_reckoned_plainly(self):
        chance = random.Random(203)
        tried = 0
        for book in random_books(1500, 204, 0.6):
            if solvable(book):
                for x in range(book[0][0]):
                    e = chance.randint(0, 4)
                    numbers = sorted(chance.sample(range(25), chance.randint(0, e)))
                    lies = tuple((number, chance.randint(0, 9)) for number in numbers)
                    due, gone = plain_erring(book, e, x, lies)
                    self.same(run_erring(book, e, x, lies), due)
                    self.assertIn(due[1], book[0][2][x])
                    for looks, move in gone:
                        self.assertIs(free(book, alive(book[0], e, looks), move), True)
                        tried += 1
        self.assertGreater(tried, 200)


class Refusals(Strict):

    def test_in_order(self):
        self.refuses_wrong_books(run_erring, 9, 9, None)
        for e in NO_ERRORS:
            self.refused(BadNumber, e, run_erring, STUCK, e, 9, None)
        self.refuses_wrong_faults(run_erring, (STUCK, 4), (None,))
        for lies in NO_TUPLES:
            self.refused(BadLies, -1, run_erring, STUCK, 4, 0, lies)

    def test_more_lies_than_errors(self):
        for e in range(5):
            lies = tuple((number, 0) for number in range(e + 1))
            self.refused(BadLies, -1, run_erring, BOOK, e, 0, lies)
            self.refused(BadLies, -1, run_erring, BOOK, e, 0, (None,) * (e + 1))
            self.same(run_erring(BOOK, e, 0, lies[:-1])[1], 0)

    def test_what_is_no_lie(self):
        bad = NO_TUPLES + ((), (0,), (0, 0, 0), (-1, 0), (0, 10), (0, -1), (True, 0), (False, 0),
                           (0, True), (0, False), (None, 0), (0, None), ("0", 0), ((0,), 0), (0, (0,)))
        for lie in bad:
            self.refused(BadLies, 0, run_erring, BOOK, 2, 0, (lie,))
            self.refused(BadLies, 0, run_erring, BOOK, 2, 0, (lie, None))
            self.refused(BadLies, 1, run_erring, BOOK, 3, 0, ((0, 5), lie, None))
        self.refused(BadLies, 0, run_erring, BOOK, 2, 0, (0, 0))

    def test_numbers_that_do_not_ascend(self):
        self.refused(BadLies, 1, run_erring, BOOK, 2, 0, ((3, 0), (3, 0)))
        self.refused(BadLies, 1, run_erring, BOOK, 4, 0, ((3, 0), (2, 0), (1, 0)))
        self.refused(BadLies, 2, run_erring, BOOK, 4, 0, ((0, 0), (7, 0), (7, 1), (8, 0)))
        self.refused(BadLies, 1, run_erring, BOOK, 4, 0, ((10 ** 30, 0), (5000, 0)))

    def test_stuck(self):
        self.refused(Stuck, (0, 1), run_erring, STUCK, 0, 2, ())
        self.refused(BadLies, 0, run_erring, STUCK, 1, 0, ((0, 10),))
        never = (replaced(RIG, 2, ((0,), (1,), ())), BOOK[1])
        self.refused(Stuck, (2,), run_erring, never, 4, 0, ((0, 0),))
        tried = 0
        for book in random_books(100, 205, 0.4):
            if not solvable(book):
                self.refused(Stuck, stuck(book, home(book[0])), run_erring, book, 1, 0, ())
                tried += 1
        self.assertGreater(tried, 10)


if __name__ == "__main__":
    unittest.main()
