"""[31] programs, [32] their limits."""

import unittest

from tests.helping import (
    ANYTHING, NO_NUMBERS, NO_PROGRAMS, NO_RIGS, NO_TUPLES, PROGRAM, RIG, Strict, greatest_rig,
    nested, replaced,
)
from waryrig.errors import BadProgram, BadRig, TooMany
from waryrig.programs import is_program, made_program

SIGN = ("sign", 0)
GO = ("go", 0)
CURE = ("cure", 0)
EMPTY_IF = ("if", SIGN, (), ())
EMPTY_TIMES = ("times", 1, ())

RIGHT_TESTS = (
    ("sign", 0), ("sign", 9), ("flag", 0), ("flag", 7), ("not", SIGN), ("and", SIGN, ("flag", 3)),
    ("or", ("flag", 3), SIGN), ("and", ("or", SIGN, SIGN), ("not", ("not", ("flag", 1)))),
)
RIGHT_STATEMENTS = (
    ("go", 0), ("go", 1), ("go", 2), ("cure", 0), ("cure", 2), ("set", 0, 0), ("set", 0, 1),
    ("set", 7, 0), ("set", 7, 1), ("times", 1, ()), ("times", 9, (GO, CURE)), EMPTY_IF,
    ("if", SIGN, (GO,), ()), ("if", SIGN, (), (CURE, GO)), ("if", ("flag", 2), (EMPTY_IF,), (GO,)),
) + tuple(("if", test, (), (GO,)) for test in RIGHT_TESTS)

NO_INDEX = NO_NUMBERS + (-1, 10 ** 30)
WRONG_TESTS = NO_TUPLES + (
    (), ("sign",), ("flag",), ("not",), ("and",), ("or",), ("other", 0), ("other", SIGN), (0, 0),
    ("sign", 0, 0), ("flag", 0, 0), ("not", SIGN, SIGN), ("and", SIGN), ("or", SIGN),
    ("and", SIGN, SIGN, SIGN), ("or", SIGN, SIGN, SIGN), ("sign", 10), ("flag", 8), ("Sign", 0),
    (None, 0), ((), 0), ("", 0), ("no", SIGN), (("sign", 0),), ("not", 0), ("not", None),
    ("not", ("sign", 10)), ("not", ()), ("and", ("sign", 10), SIGN), ("and", SIGN, ("sign", 10)),
    ("xor", SIGN, SIGN), ("", SIGN, SIGN), (None, SIGN, SIGN), ("sign", SIGN, SIGN),
    ("or", ("flag", 8), SIGN), ("or", SIGN, ("flag", 8)), ("and", SIGN, None), ("or", None, SIGN),
) + tuple((kind, number) for kind in ("sign", "flag") for number in NO_INDEX)
WRONG_STATEMENTS = NO_TUPLES + (
    (), ("go",), ("cure",), ("set",), ("set", 0), ("if",), ("if", SIGN), ("if", SIGN, ()),
    ("times",), ("times", 1), ("go", 0, 0), ("cure", 0, 0), ("set", 0, 0, 0),
    ("if", SIGN, (), (), ()), ("times", 1, (), ()), ("times", 1, (), (), ()), ("other", 0),
    ("other", 0, 0), ("other", 1, ()), ("other", SIGN, (), ()), (None, 1, ()), ("Go", 0), (None, 0), (0, 0), ((), 0), ("", 0), ("look", (), 0), ("goto", 0),
    ("go", 3), ("cure", 3), ("set", 8, 0), ("set", 0, 2), ("set", 0, -1), ("times", 0, ()),
    ("times", 10, ()), ("times", 1, None), ("times", 1, 0), ("times", 1, ""), ("times", 1, "abc"),
    ("times", 1, (GO,) * 201), ("if", SIGN, None, ()), ("if", SIGN, (), None), ("if", SIGN, 0, ()),
    ("if", SIGN, (), ""), ("if", SIGN, "abc", ()), ("if", SIGN, (GO,) * 201, ()),
    ("if", SIGN, (), (GO,) * 201), ("if", (), (), ()), ("if", None, (), ()), ("if", (), SIGN, ()),
) + tuple((kind, number) for kind in ("go", "cure") for number in NO_INDEX) + tuple(
    ("set", number, 0) for number in NO_INDEX) + tuple(
    ("set", 0, number) for number in NO_INDEX) + tuple(
    ("times", number, ()) for number in NO_INDEX) + tuple(
    ("if", test, (), ()) for test in WRONG_TESTS)


def within(statement, deep, kind="if"):
    """Return a body that lies 1 deep, with the statement in the body that lies so deep."""
    body = (statement,)
    for _ in range(deep - 1):
        if kind == "if":
            body = (("if", SIGN, (), body),)
        else:
            body = ((kind, 2, body),)
    return body


def of_statements(many, last=GO):
    """Return a program of so many statements in all, in bodies of up to 200."""
    left = many - 1
    bodies = []
    while left > 0:
        here = min(left, 200)
        bodies.append(("times", 1, (GO,) * (here - 1)))
        left -= here
    return tuple(bodies) + (last,)


def count(body):
    """Return how many statements there are in all."""
    return sum(1 + sum(count(inner) for inner in one[2:] if one[0] in ("if", "times"))
               for one in body)


class Right(Strict):

    def right(self, program, rig=RIG):
        self.assertIs(made_program(rig, program), program)
        self.assertIs(is_program(rig, program), True)

    def test_each_statement_and_each_test(self):
        for statement in RIGHT_STATEMENTS:
            self.right((statement,))
            self.right((GO, statement))
            self.right((("times", 2, (statement,)),))
            self.right((("if", SIGN, (statement,), (GO, statement)),))
        for test in RIGHT_TESTS:
            self.right((("if", test, (), ()),))
            self.right((("if", ("not", test), (), ()),))

    def test_programs(self):
        self.right(())
        self.right(PROGRAM)
        self.right(RIGHT_STATEMENTS)
        self.assertIs(made_program(rig=RIG, thing=PROGRAM), PROGRAM)
        self.assertIs(is_program(rig=RIG, thing=PROGRAM), True)

    def test_settings_and_remedies_of_the_rig(self):
        self.right((("go", 39), ("cure", 15)), greatest_rig())
        self.assertIs(is_program(greatest_rig(), (("go", 40),)), False)
        self.assertIs(is_program(greatest_rig(), (("cure", 16),)), False)
        self.right((("if", ("sign", 9), (), ()),), (1, 1, ((),), ((0,),), ()))


class Wrong(Strict):

    def wrong(self, place, program):
        self.refused(BadProgram, place, made_program, RIG, program)
        self.assertIs(is_program(RIG, program), False)

    def test_each_part_of_a_statement(self):
        for statement in WRONG_STATEMENTS:
            with self.subTest(repr(statement)[:100]):
                self.wrong((0,), (statement,))
                self.wrong((2,), (GO, EMPTY_IF, statement, None))

    def test_each_part_of_a_test(self):
        for test in WRONG_TESTS:
            for spoilt in (
                test, ("not", test), ("and", test, SIGN), ("and", SIGN, test), ("or", test, SIGN),
                ("or", SIGN, test), ("not", ("and", ("or", SIGN, test), SIGN)),
            ):
                self.wrong((1,), (GO, ("if", spoilt, (), ())))

    def test_bools_are_no_numbers(self):
        for it in (True, False):
            for statement in (
                ("go", it), ("cure", it), ("set", it, 0), ("set", 0, it), ("times", it, ()),
                ("if", ("sign", it), (), ()), ("if", ("flag", it), (), ()),
            ):
                self.wrong((0,), (statement,))

    def test_what_is_no_program(self):
        for thing, place in NO_PROGRAMS:
            self.wrong(place, thing)

    def test_the_place(self):
        for bad in (None, ("go", 3), ("times", 0, ())):
            self.wrong((0, 0, 0), (("if", SIGN, (bad,), ()),))
            self.wrong((0, 1, 0), (("if", SIGN, (), (bad,)),))
            self.wrong((1, 1, 2), (GO, ("if", SIGN, (GO,), (GO, CURE, bad, bad))))
            self.wrong((0, 0, 1), (("times", 3, (GO, bad)), bad))
            self.wrong((2, 0, 0), (EMPTY_IF, EMPTY_TIMES, ("times", 3, (bad,))))
            deep = ("times", 2, (GO, ("if", SIGN, (CURE,), (EMPTY_TIMES, EMPTY_IF, GO, bad))))
            self.wrong((0, 0, 1, 1, 3), (deep,))
            self.wrong((1, 1, 0, 0, 0, 0, 1, 1, 3), (GO, ("if", SIGN, (), (
                ("times", 1, (deep,)),))))
            self.wrong((0, 1) * 10 + (1,), within(("if", SIGN, (), (GO, bad)), 10)[:1])
            self.wrong((0,) * 5, within(("times", 2, (bad,)), 2, "times"))

    def test_body_by_body_in_the_order_of_the_text(self):
        bad = None
        self.wrong((0, 0, 1), (("if", SIGN, (GO, bad), (bad,)), bad))
        self.wrong((0, 1, 0), (("if", SIGN, (GO, GO), (bad,)), bad))
        self.wrong((1,), (("if", SIGN, (GO, GO), (GO,)), bad))

    def test_what_is_bad_itself_ahead_of_those_in_its_bodies(self):
        bad = None
        for statement in (
            ("if", ("sign", 10), (bad,), ()), ("if", SIGN, (bad,), None),
            ("if", SIGN, (bad,), (GO,) * 201), ("times", 10, (bad,)), ("times", 1, (bad,), ()),
            ("if", SIGN, (bad,)), ("if", SIGN, (bad,) * 201, ()), ("times", 1, (bad,) * 201),
        ):
            self.wrong((1,), (GO, statement))
        three = ("times", 1, (("times", 1, (("times", 1, (("times", 1, (bad,)),)),)),))
        self.wrong((0, 0, 0, 0, 0, 0, 0), (three,))

    def test_any_rig_ahead_of_any_program(self):
        for thing, where in NO_RIGS:
            for program in ((), None, (None,)):
                self.refused(BadRig, where, made_program, thing, program)
                self.assertIs(is_program(thing, program), False)

    def test_anything_is_judged(self):
        for thing in ANYTHING:
            self.assertIs(is_program(RIG, thing), thing == ())
            self.assertIs(is_program(thing, PROGRAM), False)
            self.assertIs(is_program(thing, thing), False)
            self.assertIs(is_program(RIG, (thing,)), False)
            self.assertIs(is_program(RIG, (("go", thing),)), repr(thing) == "0")
            self.assertIs(is_program(RIG, (("if", thing, (), ()),)), False)
            self.assertIs(is_program(RIG, (("if", SIGN, thing, ()),)), thing == ())
            self.assertIs(is_program(RIG, (("times", 3, thing),)), thing == ())
            self.assertIs(is_program(RIG, ((thing, 0),)), False)
        deep = SIGN
        for _ in range(70):
            deep = ("and", deep, nested(8))
        self.assertIs(is_program(RIG, (("if", deep, (), ()),)), False)
        deep = ()
        for _ in range(70):
            deep = (("if", SIGN, deep, ()),)
        self.refused(BadProgram, (0, 0) * 29 + (0,), made_program, RIG, deep)


class Limits(Strict):

    def test_a_test_of_six_and_of_seven(self):
        for kind in ("not", "and", "or"):
            for index in (1, 2)[:1 + (kind != "not")]:
                test = SIGN
                for deep in range(2, 9):
                    parts = (kind, SIGN, ("flag", 1))[:2 + (kind != "not")]
                    test = replaced(parts, index, test)
                    program = (GO, ("if", test, (), ()))
                    self.assertIs(is_program(RIG, program), deep <= 6)
                    if deep > 6:
                        self.refused(BadProgram, (1,), made_program, RIG, program)

    def test_two_hundred_statements_in_a_body(self):
        for many, right in ((200, True), (201, False)):
            self.assertIs(is_program(RIG, (GO,) * many), right)
            for statement in (
                ("times", 1, (GO,) * many), ("if", SIGN, (GO,) * many, ()),
                ("if", SIGN, (), (GO,) * many),
            ):
                self.assertIs(is_program(RIG, (CURE, statement)), right)
                if not right:
                    self.refused(BadProgram, (1,), made_program, RIG, (CURE, statement))
        self.refused(BadProgram, (-1,), made_program, RIG, (GO,) * 201)

    def test_bodies_that_lie_thirty_deep_and_thirty_one(self):
        for deep in (1, 2, 28, 29, 30):
            self.assertIs(is_program(RIG, within(GO, deep)), True)
        # The statement that has a body 31 deep is bad, even if that is empty.
        place = (0, 1) * 29 + (0,)
        for bad in (
            EMPTY_IF, ("if", SIGN, (GO,), ()), EMPTY_TIMES, ("times", 1, (None,)),
            ("if", SIGN, (None,), ()),
        ):
            self.refused(BadProgram, place, made_program, RIG, within(bad, 30))
            self.assertIs(is_program(RIG, within(bad, 30)), False)
        self.assertIs(is_program(RIG, within(EMPTY_IF, 29)), True)
        self.assertIs(is_program(RIG, within(EMPTY_TIMES, 29)), True)
        self.refused(BadProgram, place, made_program, RIG, within(GO, 31))

    def test_times_within_three_and_within_four(self):
        self.assertIs(is_program(RIG, within(GO, 4, "times")), True)
        self.assertIs(is_program(RIG, within(EMPTY_TIMES, 3, "times")), True)
        self.refused(BadProgram, (0,) * 7, made_program, RIG, within(EMPTY_TIMES, 4, "times"))
        self.refused(BadProgram, (0,) * 7, made_program, RIG, within(GO, 5, "times"))
        # An if between them does not matter, and what stands beside does not either.
        body = (GO,)
        for many in range(1, 6):
            body = (EMPTY_IF, ("if", SIGN, (), (("times", 2, body),)), EMPTY_TIMES)
            self.assertIs(is_program(RIG, body), many <= 3)
        side = (EMPTY_TIMES,) * 5
        self.assertIs(is_program(RIG, within(("if", SIGN, side, ()), 3, "times")), True)
        self.refused(BadProgram, (0, 0, 0, 0, 0, 0, 0, 0, 0), made_program, RIG,
                     within(("if", SIGN, side, ()), 4, "times"))

    def test_two_thousand_statements_in_all(self):
        for many in (1, 2, 200, 1999, 2000):
            program = of_statements(many)
            self.assertEqual(count(program), many)
            self.assertIs(made_program(RIG, program), program)
        for many in (2001, 2002, 2100):
            self.refused(TooMany, 2001, made_program, RIG, of_statements(many))
            self.assertIs(is_program(RIG, of_statements(many)), False)

    def test_statements_in_all_kinds_of_bodies_count(self):
        for statement in (
            ("if", SIGN, (GO,) * 200, (GO,) * 199),
            ("times", 1, (("times", 1, (GO,) * 198), ("if", SIGN, (), (GO,) * 199))),
        ):
            self.assertEqual(count((statement,)), 400)
            right = (statement,) * 5
            self.assertIs(is_program(RIG, right), True)
            self.refused(TooMany, 2001, made_program, RIG, right + (GO,))
            self.refused(TooMany, 2001, made_program, RIG, right + (statement,))

    def test_a_wrong_statement_ahead_of_the_2001st(self):
        program = of_statements(2001)
        spoilt = program[:-1] + (None,)
        self.refused(TooMany, 2001, made_program, RIG, spoilt)
        spoilt = program + (None,)
        self.refused(TooMany, 2001, made_program, RIG, spoilt)
        last = program[-2]
        spoilt = program[:-2] + (("times", 1, last[2][:-1] + (None,)), GO)
        self.refused(BadProgram, (len(program) - 2, 0, len(last[2]) - 1), made_program, RIG, spoilt)
        self.refused(BadProgram, (0,), made_program, RIG, (None,) + program[1:])

    def test_the_2001st_itself_is_wrong(self):
        for bad in (None, ("go", 3), EMPTY_IF, ("times", 1, None)):
            self.refused(TooMany, 2001, made_program, RIG, of_statements(2001, bad))
        for bad in (None, ("go", 3), ("times", 1, None)):
            place = (len(of_statements(2000)) - 1,)
            self.refused(BadProgram, place, made_program, RIG, of_statements(2000, bad))

    def test_the_2001st_in_a_body(self):
        for inner in ((GO,), (None,), (GO, None)):
            program = of_statements(2000, ("times", 1, inner))
            self.refused(TooMany, 2001, made_program, RIG, program)
        program = of_statements(2000, ("if", SIGN, (), (None,) * 201))
        self.refused(BadProgram, (len(program) - 1,), made_program, RIG, program)


if __name__ == "__main__":
    unittest.main()
