"""[34] judging, [35] its examples."""

import random
import unittest

from tests.helping import (
    ANYTHING, BOOK, NO_PROGRAMS, PROGRAM, RIG, WRONG_BOOKS, Strict, random_books, replaced,
    some_body,
)
from waryrig.checker import right, same_program, verdict
from waryrig.errors import BadProgram, TooMany
from waryrig.running import run

TOO_MANY = (("times", 1, (("set", 0, 0),) * 200),) * 10


def ifs(test, first, second):
    """Return a body that is one if alone."""
    return (("if", test, first, second),)


class Verdicts(Strict):

    def test_the_examples(self):
        self.same(verdict(BOOK, PROGRAM), None)
        self.same(verdict(BOOK, (("go", 2), ("cure", 0))), (0, ((0,), ("barred", (0,), (2,)))))
        self.same(verdict(book=BOOK, program=()), (0, ((0,), ("end",))))

    def test_the_least_fault_that_is_not_cured(self):
        self.same(verdict(BOOK, (("cure", 0),)), (1, ((0,), ("cure", 0))))
        self.same(verdict(BOOK, (("cure", 1),)), (0, ((0,), ("cure", 1))))
        program = (("go", 1),) + ifs(("sign", 1), (("go", 0), ("go", 2)), (("cure", 1),))
        self.same(verdict(BOOK, program), (0, ((0, 1), ("cure", 1))))
        cured = (replaced(RIG, 2, ((1,), (0, 1), (2,))), BOOK[1])
        self.same(verdict(cured, program), (2, ((0, 1, 0), ("barred", (1, 0, 1), (2,)))))

    def test_each_way_to_end_without_a_cure(self):
        one = (replaced(RIG, 2, ((0,),) * 3), BOOK[1])
        for program, last in (
            ((("go", 0),), ("nomove", (0,))), ((("go", 2),), ("barred", (0,), (2,))), ((), ("end",)),
        ):
            self.same(verdict(one, program), (0, ((0,), last)))
        many = (("times", 9, (("times", 9, (("times", 9, (("go", 1), ("go", 0)) * 2),)),)),)
        walk = (0,) + (1, 0) * 999 + (1,)
        self.same(verdict(one, many), (0, (walk, ("long", (0, 0, 0, 0, 0, 0, 3)))))
        self.same(verdict(one, (("cure", 0),)), None)

    def test_a_cure_that_cures_another_fault_alone(self):
        # Under 0 and 1 the cures are changed about.
        program = (("go", 1),) + ifs(("sign", 1), (("cure", 2),), (("go", 0), ("go", 2)) + ifs(
            ("sign", 0), (("cure", 1),), (("cure", 0),)))
        self.same(verdict(BOOK, program), (0, ((0, 1, 0, 2), ("cure", 1))))
        self.assertIs(right(BOOK, program), False)

    def test_whether_the_others_that_are_possible_are_cured_is_not_asked(self):
        # It cures all alike, without having told them apart.
        book = (replaced(RIG, 2, ((0, 1), (1,), (1, 2))), BOOK[1])
        self.same(verdict(book, (("cure", 1),)), None)
        self.assertIs(right(book, (("cure", 1),)), True)
        self.assertIs(right(book, (("cure", 0),)), False)

    def test_a_fault_that_nothing_cures(self):
        book = (replaced(RIG, 2, ((0,), (), (2,))), BOOK[1])
        self.same(verdict(book, PROGRAM), (1, ((0, 1, 0, 2), ("cure", 1))))

    def test_of_the_runs(self):
        chance = random.Random(131)
        kinds = set()
        for book in random_books(500, 132, 0.7):
            program = some_body(chance, book[0], 1) + (("cure", 0),)
            due = None
            for x in range(book[0][0] - 1, -1, -1):
                outcome = run(book, program, x)
                last = outcome[1]
                if last[0] != "cure" or last[1] not in book[0][2][x]:
                    due = (x, outcome)
            self.same(verdict(book, program), due)
            self.assertIs(right(book, program), due is None)
            kinds.add(due and due[1][1][0])
        self.assertTrue({None, "barred", "cure", "nomove"} <= kinds)

    def test_if_a_run_is_barred_each_fault_of_the_lot_could_be_the_one(self):
        chance = random.Random(133)
        barred = 0
        for book in random_books(400, 134):
            program = some_body(chance, book[0], 1)
            for x in range(book[0][0]):
                walk, last = run(book, program, x)
                if last[0] == "barred":
                    for y in last[2]:
                        self.same(run(book, program, y), (walk, last))
                        barred += 1
        self.assertGreater(barred, 50)

    def test_refusals_in_order(self):
        self.refuses_wrong_books(verdict, None)
        for thing, place in NO_PROGRAMS:
            self.refused(BadProgram, place, verdict, BOOK, thing)
        self.refused(TooMany, 2001, verdict, BOOK, TOO_MANY)


class Right(Strict):

    def test_the_examples(self):
        self.assertIs(right(BOOK, PROGRAM), True)
        self.assertIs(right(book=BOOK, program=PROGRAM), True)
        self.assertIs(right(BOOK, (("go", 2), ("cure", 0))), False)
        self.assertIs(right(BOOK, ()), False)

    def test_what_is_no_book_and_no_program(self):
        for thing, _, _ in WRONG_BOOKS:
            self.assertIs(right(thing, PROGRAM), False)
        one = (replaced(RIG, 2, ((0,),) * 3), BOOK[1])
        for thing, _ in NO_PROGRAMS:
            self.assertIs(right(one, thing), False)
        self.assertIs(right(one, (("cure", 0),) + TOO_MANY), False)
        self.assertIs(right(one, (("cure", 0),) + TOO_MANY[1:]), True)
        self.assertIs(right(one, (("cure", 0), None)), False)

    def test_anything_is_judged(self):
        for thing in ANYTHING:
            self.assertIs(right(thing, PROGRAM), False)
            self.assertIs(right(BOOK, thing), False)
            self.assertIs(right(thing, thing), False)


class Same(Strict):

    def test_written_otherwise(self):
        yes = ("sign", 1)
        other = (("set", 3, 1), ("times", 1, (("go", 1),)), ("if", ("not", yes), (
            ("times", 1, (("go", 0), ("go", 2), ("if", ("and", yes, ("flag", 3)), (
                ("cure", 1), ("cure", 0)), ()))), ("cure", 0)), (("cure", 2), ("go", 1))))
        self.assertIs(same_program(BOOK, PROGRAM, other), True)
        self.assertIs(same_program(book=BOOK, one=other, two=PROGRAM), True)

    def test_alike_though_not_right(self):
        self.assertIs(same_program(BOOK, (), (("set", 0, 1),)), True)
        self.assertIs(same_program(BOOK, (("go", 2),), (("go", 2), ("go", 2), ("cure", 0))), True)

    def test_ending_otherwise(self):
        for one in ((), (("cure", 0),), (("cure", 1),), (("go", 2),), (("go", 0),), (("go", 1),)):
            for two in ((), (("cure", 0),), (("cure", 1),), (("go", 2),), (("go", 0),), (("go", 1),)):
                self.assertIs(same_program(BOOK, one, two), one == two)

    def test_the_place_is_part_of_how_it_ends(self):
        self.assertIs(same_program(BOOK, (("go", 2),), (("set", 0, 0), ("go", 2))), False)
        self.assertIs(same_program(BOOK, (("go", 0),), (("times", 1, (("go", 0),)),)), False)

    def test_the_walk_is_part_of_it(self):
        there = (("go", 1), ("go", 0))
        self.assertIs(same_program(BOOK, (("cure", 0),), there + (("cure", 0),)), False)

    def test_under_the_last_fault_alone(self):
        one = (("go", 1),) + ifs(("sign", 1), (("cure", 2),), (("cure", 0),))
        two = (("go", 1),) + ifs(("sign", 1), (("cure", 1),), (("cure", 0),))
        self.assertIs(same_program(BOOK, one, two), False)
        self.assertIs(same_program(BOOK, one, one), True)

    def test_of_the_runs(self):
        chance = random.Random(135)
        told = [0, 0]
        for book in random_books(400, 136):
            one = some_body(chance, book[0], 1)[:2]
            two = chance.choice((some_body(chance, book[0], 1)[:2], one + (("set", 7, 1),)))
            due = all(run(book, one, x) == run(book, two, x) for x in range(book[0][0]))
            self.assertIs(same_program(book, one, two), due)
            told[due] += 1
        self.assertGreater(min(told), 50)

    def test_refusals_in_order(self):
        self.refuses_wrong_books(same_program, None, None)
        for thing, place in NO_PROGRAMS:
            self.refused(BadProgram, place, same_program, BOOK, thing, None)
            self.refused(BadProgram, place, same_program, BOOK, (), thing)
        self.refused(TooMany, 2001, same_program, BOOK, TOO_MANY, None)
        self.refused(TooMany, 2001, same_program, BOOK, (), TOO_MANY)


if __name__ == "__main__":
    unittest.main()
