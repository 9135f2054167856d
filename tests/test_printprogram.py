"""[71] programs told as texts, [72] there and back."""

import random
import unittest

from tests.helping import (
    NAMED, NAMES, NO_TUPLES, Strict, greatest_named, replaced, some_body, some_named, some_test,
)
from waryrig.errors import BadNumber, BadProgram, TooDeep, TooMany
from waryrig.printprogram import print_program
from waryrig.readprogram import read_program

NO, YES, F1, F2, F3 = ("sign", 0), ("sign", 1), ("flag", 1), ("flag", 2), ("flag", 3)


def told(program):
    """Tell a program with the sample names."""
    return print_program(NAMED, program)


def test_told(test):
    """Return the text of a T."""
    text = told((("if", test, (), ()),))
    return text[len("if "):-len(" {}")]


class Programs(Strict):

    def test_the_example(self):
        test = ("and", ("or", NO, F3), ("not", ("and", YES, NO)))
        self.same(test_told(test), "(no or flag 3) and not (yes and no)")

    def test_statements(self):
        for statement, text in (
            (("go", 0), "go home"), (("go", 1), "go far"), (("cure", 1), "cure wire"),
            (("set", 0, 1), "set 0"), (("set", 7, 0), "clear 7"), (("set", 7, 1), "set 7"),
            (("times", 9, ()), "times 9 {}"), (("times", 1, (("go", 1),)), "times 1 { go far }"),
            (("if", YES, (), ()), "if yes {}"),
            (("if", YES, (("go", 1),), ()), "if yes { go far }"),
            (("if", YES, (), (("go", 1),)), "if yes {} else { go far }"),
            (("if", YES, (("go", 1),), (("cure", 0),)), "if yes { go far } else { cure fuse }"),
        ):
            self.same(told((statement,)), text)
            self.same(told((statement, statement)), text + "; " + text)
            self.same(told((("times", 2, (statement,)),)), "times 2 { " + text + " }")

    def test_empty_bodies(self):
        self.same(told(()), "")
        self.same(print_program(named=NAMED, program=()), "")
        self.same(told((("times", 2, (("if", NO, (("times", 3, ()),), ()),)),)),
                  "times 2 { if no { times 3 {} } }")

    def test_brackets_just_where_they_are_needed(self):
        for test, text in (
            (NO, "no"), (F1, "flag 1"), (("not", NO), "not no"), (("not", ("not", F1)), "not not flag 1"),
            (("or", NO, YES), "no or yes"), (("and", NO, YES), "no and yes"),
            (("or", ("or", F1, F2), F3), "flag 1 or flag 2 or flag 3"),
            (("or", F1, ("or", F2, F3)), "flag 1 or (flag 2 or flag 3)"),
            (("and", ("and", F1, F2), F3), "flag 1 and flag 2 and flag 3"),
            (("and", F1, ("and", F2, F3)), "flag 1 and (flag 2 and flag 3)"),
            (("or", ("and", F1, F2), F3), "flag 1 and flag 2 or flag 3"),
            (("or", F1, ("and", F2, F3)), "flag 1 or flag 2 and flag 3"),
            (("and", ("or", F1, F2), F3), "(flag 1 or flag 2) and flag 3"),
            (("and", F1, ("or", F2, F3)), "flag 1 and (flag 2 or flag 3)"),
            (("not", ("or", F1, F2)), "not (flag 1 or flag 2)"),
            (("not", ("and", F1, F2)), "not (flag 1 and flag 2)"),
            (("or", ("not", F1), ("not", F2)), "not flag 1 or not flag 2"),
            (("and", ("not", F1), ("not", F2)), "not flag 1 and not flag 2"),
            (("not", ("not", ("or", NO, YES))), "not not (no or yes)"),
            (("and", ("or", F1, F2), ("or", F2, F3)), "(flag 1 or flag 2) and (flag 2 or flag 3)"),
            (("or", ("or", F1, F2), ("or", F2, F3)), "flag 1 or flag 2 or (flag 2 or flag 3)"),
        ):
            self.same(test_told(test), text)
            self.same(read_program(NAMED, "if " + text + " {}"), (("if", test, (), ()),))

    def test_no_brackets_that_could_be_left_out(self):
        chance = random.Random(451)
        taken = 0
        for _ in range(600):
            test = some_test(chance, 5)
            if "('sign', 2)" in repr(test):
                continue
            text = test_told(test)
            for at, sign in enumerate(text):
                if sign == "(":
                    deep, end = 1, at
                    while deep:
                        end += 1
                        deep += (text[end] == "(") - (text[end] == ")")
                    other = text[:at] + text[at + 1:end] + text[end + 1:]
                    taken += 1
                    try:
                        found = read_program(NAMED, "if " + other + " {}")
                    except TooDeep:
                        continue
                    self.assertNotEqual(found, (("if", test, (), ()),))
        self.assertGreater(taken, 100)


class SignsWithoutNames(Strict):

    def test_the_first_one_in_the_text(self):
        for sign in range(2, 10):
            self.refused(BadNumber, sign, told, (("if", ("sign", sign), (), ()),))
        test = ("or", ("and", NO, ("sign", 5)), ("not", ("sign", 3)))
        self.refused(BadNumber, 5, told, (("if", test, (), ()),))
        program = (
            ("go", 1), ("if", YES, (("times", 2, (("if", ("sign", 7), (), ()),)),), ()),
            ("if", ("sign", 2), (), ()))
        self.refused(BadNumber, 7, told, program)
        program = (("if", ("sign", 4), (("if", ("sign", 5), (), ()),), (("if", ("sign", 6), (), ()),)),)
        self.refused(BadNumber, 4, told, program)
        self.refused(BadNumber, 5, told, replaced(program, 0, replaced(program[0], 1, YES)))
        program = (("if", YES, (), (("if", ("sign", 6), (), ()),)), ("if", ("sign", 2), (), ()))
        self.refused(BadNumber, 6, told, program)

    def test_names_for_signs_that_nothing_shows(self):
        named = (NAMED[0], replaced(NAMES, 3, ("no", "yes", "so")))
        self.same(print_program(named, (("if", ("sign", 2), (), ()),)), "if so {}")
        self.refused(BadNumber, 3, print_program, named, (("if", ("sign", 3), (), ()),))


class ThereAndBack(Strict):

    def test_programs(self):
        chance = random.Random(452)
        read = 0
        for _ in range(500):
            named, _ = some_named(chance)
            program = some_body(chance, named[0], 1)
            try:
                text = print_program(named, program)
            except BadNumber as error:
                self.assertGreaterEqual(error.what, len(named[1][3]))
                continue
            self.same(read_program(named, text), program)
            for wrong in ("  ", " ;", "( ", " )", "{ }"):
                self.assertNotIn(wrong, text)
            read += 1
        self.assertGreater(read, 200)

    def test_any_tests(self):
        chance = random.Random(453)
        for _ in range(500):
            test = some_test(chance, 6)
            if "('sign', 2)" not in repr(test):
                program = (("if", test, (("go", 1),), ()),)
                self.same(read_program(NAMED, told(program)), program)

    def test_what_is_read_told_and_read_again(self):
        for text in (
            "go far ;cure wire", "if (yes) { } else { }", "if ((not (yes or (no)))) {set 1}",
            "times 2{times 3{ clear 0 }}", "if yes or no or (flag 1 and flag 2) { go home } else { }",
        ):
            program = read_program(NAMED, text)
            self.same(read_program(NAMED, told(program)), program)

    def test_the_deepest_and_the_longest(self):
        program = (("go", 1),)
        for number in range(29):
            program = (("if", F1, program, ()) if number % 2 else ("if", F1, (), program),)
        self.same(read_program(NAMED, told(program)), program)
        program = (("times", 1, (("set", 0, 1),) * 199),) * 10
        self.same(read_program(NAMED, told(program)), program)
        named = greatest_named()
        body = (("go", 39), ("cure", 15)) * 100
        program = (("if", ("sign", 9), body[:199], body[:199]),) * 5 + (("go", 0),) * 5
        text = print_program(named, program)
        self.assertLess(len(text), 60000)
        self.same(read_program(named, text), program)

    def test_a_program_may_be_too_long_to_be_read(self):
        named = greatest_named()
        test = ("sign", 9)
        for _ in range(5):
            test = ("and", test, test)
        program = (("if", test, (), ()),) * 200
        self.assertGreater(len(print_program(named, program)), 60000)


class Refusals(Strict):

    def test_in_order(self):
        self.refuses_wrong_named(print_program, None)
        for thing in NO_TUPLES:
            self.refused(BadProgram, (-1,), print_program, NAMED, thing)
        self.refused(BadProgram, (1,), told, (("if", ("sign", 9), (), ()), ("go", 2)))
        self.refused(BadProgram, (0, 0, 1), told, (("times", 2, (("go", 1), ("cure", 2))),))
        self.refused(TooMany, 2001, told, (("times", 1, (("set", 0, 1),) * 200),) * 10)


if __name__ == "__main__":
    unittest.main()
