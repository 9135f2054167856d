"""[36] the code of a program, [37] the program of a code, [38] there and back."""

import random
import unittest

from tests.helping import (
    BOOK, CODE, CURE, CURES, NO_CODES, NO_PROGRAMS, NO_RIGS, PROGRAM, RIG, Strict, plainly_flat,
    plainly_joined, random_books, replaced, some_body, some_code,
)
from waryrig.checker import right, same_program, verdict
from waryrig.codes import code_right, is_code, run_code
from waryrig.compiler import code_of, program_of
from waryrig.ends import home
from waryrig.errors import BadCode, BadProgram, BadRig, NotRight, TooDeep, TooMany
from waryrig.lots import all_faults, one_sign, parted
from waryrig.programs import is_program, made_program
from waryrig.running import run
from waryrig.solver import code_for


def plain_tree(rig, outcomes, lot, at):
    """Make the tree of [36] as its words say."""
    walk, last = outcomes[lot[0]]
    for index in range(at, len(walk)):
        assert {outcomes[x][0][index] for x in lot} == {walk[index]}
        if not one_sign(rig, lot, walk[index]):
            pairs = parted(rig, lot, walk[index])
            below = [(s, plain_tree(rig, outcomes, part, index)) for s, part in pairs]
            return ["look", walk[at + 1:index + 1], below]
    assert {outcomes[x] for x in lot} == {(walk, last)}
    return ["cure", walk[at + 1:], last[1]]


def plain_code(book, program):
    """Reckon code_of as its words say."""
    lot = all_faults(book[0])
    tree = plain_tree(book[0], [run(book, program, x) for x in lot], lot, 0)
    rows = []
    plainly_flat(plainly_joined(tree), rows)
    return tuple(rows)


def plain_program(code, number=None):
    """Reckon program_of as its words say, whatever is refused."""
    kind, steps, rest = code[len(code) - 1 if number is None else number]
    body = tuple(("go", g) for g in steps)
    if kind == "cure":
        return body + (("cure", rest),)
    return body + plain_branches(code, rest)


def plain_branches(code, branches):
    """Reckon what the branches of a look are told by."""
    first = plain_program(code, branches[0][1])
    if len(branches) == 1:
        return first
    return (("if", ("sign", branches[0][0]), first, plain_branches(code, branches[1:])),)


def statements(code, number, deep, index=0):
    """Go through the statements in the order of the text.

    Of each one it is told how deep its body lies, how many stand ahead of it there,
    and whether it has bodies.
    """
    kind, steps, rest = code[number]
    for _ in steps:
        yield deep, index, False
        index += 1
    if kind == "cure":
        yield deep, index, False
    elif len(rest) == 1:
        yield from statements(code, rest[0][1], deep, index)
    else:
        yield from ifs(code, rest, deep, index)


def ifs(code, branches, deep, index):
    """Go through the statements of a look with several branches."""
    yield deep, index, True
    yield from statements(code, branches[0][1], deep + 1)
    if len(branches) == 2:
        yield from statements(code, branches[1][1], deep + 1)
    else:
        yield from ifs(code, branches[1:], deep + 1, 0)


def first_refusal(code):
    """Reckon what program_of refuses first, None if nothing."""
    for many, (deep, index, bodies) in enumerate(statements(code, len(code) - 1, 1), 1):
        if many == 2001:
            return TooMany, 2001
        if index == 200:
            return TooMany, 201
        if bodies and deep == 30:
            return TooDeep, 31
    return None


def ladder(many, steps=(), last=CURE):
    """Return a code of looks with two branches, the first one a cure, so many in a row."""
    rows = [CURE, last]
    for number in range(many):
        rows.append(("look", steps, ((0, 0), (1, number + 1))))
    return tuple(rows)


class CodeOf(Strict):

    def test_the_example(self):
        self.same(code_of(BOOK, PROGRAM), CODE)
        self.same(code_of(book=BOOK, program=PROGRAM), CODE)

    def test_needless_looks_and_detours(self):
        # A look whose sign all share, one that leads to the same, and flags: only
        # the walk is left of them.
        yes = ("sign", 1)
        program = (("set", 0, 1), ("go", 1), ("go", 0), ("if", ("sign", 0), (("go", 1),), ()),
                   ("if", yes, (("cure", 2),), (("times", 2, (("go", 0), ("go", 1))), ("go", 0), (
                       "go", 2), ("if", ("and", yes, ("flag", 0)), (("cure", 1),), (("cure", 0),)))))
        self.assertIs(right(BOOK, program), True)
        due = (("cure", (), 0), ("cure", (), 1), ("look", (0, 1, 0, 1, 0, 1, 0, 2), ((0, 0), (1, 1))),
               ("cure", (0, 1), 2), ("look", (1,), ((0, 2), (1, 3))))
        self.same(code_of(BOOK, program), due)

    def test_the_look_stands_where_the_signs_first_part(self):
        # The program asks only later, at home again, by its flag.
        program = (("go", 1), ("if", ("sign", 1), (("set", 0, 1),), ()), ("go", 0),
                   ("if", ("flag", 0), (("cure", 2),), (("go", 2), ("if", ("sign", 1), (("cure", 1),), (
                       ("cure", 0),)))))
        due = (("cure", (), 0), ("cure", (), 1), ("look", (0, 2), ((0, 0), (1, 1))),
               ("cure", (0,), 2), ("look", (1,), ((0, 2), (1, 3))))
        self.same(code_of(BOOK, program), due)

    def test_a_look_where_one_stands(self):
        rig = (3, 3, CURES, ((2, 0, 2), (0, 0, 1)), ((0, 1),))
        program = (("if", ("sign", 2), (("go", 1), ("if", ("sign", 1), (("cure", 2),), (("cure", 0),))), (
            ("cure", 1),)),)
        due = (("cure", (), 1), ("cure", (), 0), ("cure", (), 2), ("look", (1,), ((0, 1), (1, 2))),
               ("look", (), ((0, 0), (2, 3))))
        self.same(code_of((rig, ((),)), program), due)

    def test_joined(self):
        book = (replaced(RIG, 2, ((0,), (0,), (0,))), ((), ()))
        self.same(code_of(book, (("cure", 0),)), (CURE,))
        program = (("go", 1), ("go", 0), ("cure", 0))
        self.same(code_of(book, program), (("cure", (1, 0), 0),))
        program = (("go", 1), ("if", ("sign", 1), (("go", 0),), (("go", 0), ("go", 2))), ("cure", 0))
        due = (("cure", (0, 2), 0), ("cure", (0,), 0), ("look", (1,), ((0, 0), (1, 1))))
        self.same(code_of(book, program), due)

    def test_equal_for_programs_with_the_same_walks_and_cures(self):
        chance = random.Random(141)
        told = [0, 0]
        for book in random_books(3000, 142, 0.9):
            one = some_body(chance, book[0], 2) + (("cure", 0),)
            two = chance.choice((some_body(chance, book[0], 2), one[:-1])) + (("cure", 0),)
            if right(book, one) and right(book, two):
                due = same_program(book, one, two)
                self.assertIs(code_of(book, one) == code_of(book, two), due)
                told[due] += 1
        self.assertGreater(min(told), 30)

    def test_it_has_the_walk_and_the_cure_of_the_program(self):
        chance = random.Random(143)
        lengths = set()
        for book in random_books(2500, 144, 0.85):
            program = some_body(chance, book[0], 1) + (("cure", 0),)
            if right(book, program):
                code = code_of(book, program)
                self.same(code, plain_code(book, program))
                self.assertIs(is_code(book[0], code), True)
                self.assertIs(code_right(book, code, home(book[0])), True)
                for x in range(book[0][0]):
                    self.same(run_code(book, code, home(book[0]), x), run(book, program, x))
                lengths.add(min(len(code), 4))
        self.assertEqual(lengths, {1, 3, 4})

    def test_a_long_walk(self):
        there = (("go", 1), ("go", 0))
        program = (("times", 9, (("times", 9, (("times", 9, there),)),)),) + PROGRAM
        code = code_of(BOOK, program)
        self.same(code[-1], ("look", (1,), ((0, 2), (1, 3))))
        self.same(code[-2], ("cure", (0, 1) * 729, 2))
        self.same(code[2], ("look", (0, 1) * 729 + (0, 2), ((0, 0), (1, 1))))

    def test_not_right(self):
        for program in ((), (("cure", 1),), (("go", 2), ("cure", 0)), (("go", 1), ("go", 1))):
            due = verdict(BOOK, program)
            self.assertIsNotNone(due)
            self.refused(NotRight, due, code_of, BOOK, program)
        self.refused(NotRight, (0, ((0,), ("end",))), code_of, BOOK, ())

    def test_refusals_in_order(self):
        self.refuses_wrong_books(code_of, None)
        for thing, place in NO_PROGRAMS:
            self.refused(BadProgram, place, code_of, BOOK, thing)
        many = (("times", 1, (("set", 0, 0),) * 200),) * 10
        self.refused(TooMany, 2001, code_of, BOOK, many)


class ProgramOf(Strict):

    def test_the_example(self):
        due = (("go", 1), ("if", ("sign", 0), (("go", 0), ("go", 2), (
            "if", ("sign", 0), (("cure", 0),), (("cure", 1),))), (("cure", 2),)))
        self.same(program_of(RIG, CODE), due)
        self.same(program_of(rig=RIG, code=CODE), due)

    def test_cures(self):
        self.same(program_of(RIG, (CURE,)), (("cure", 0),))
        self.same(program_of(RIG, (CURE, ("cure", (1, 1, 2), 2))),
                  (("go", 1), ("go", 1), ("go", 2), ("cure", 2)))

    def test_a_look_with_one_branch(self):
        code = (("cure", (0,), 1), ("look", (), ((7, 0),)), ("look", (1, 0), ((3, 1),)))
        self.same(program_of(RIG, code), (("go", 1), ("go", 0), ("go", 0), ("cure", 1)))

    def test_many_branches(self):
        code = (("cure", (), 0), ("cure", (1,), 1), ("cure", (), 2),
                ("look", (2,), ((0, 2), (3, 1), (4, 0), (9, 1))))
        due = (("go", 2), ("if", ("sign", 0), (("cure", 2),), (
            ("if", ("sign", 3), (("go", 1), ("cure", 1)), (
                ("if", ("sign", 4), (("cure", 0),), (("go", 1), ("cure", 1))),)),)))
        self.same(program_of(RIG, code), due)

    def test_a_sign_that_has_no_branch_is_taken_for_the_last_one(self):
        book = (replaced(RIG, 3, ((0, 0, 0), (0, 5, 3), (0, 0, 0))), ((), ()))
        code = (("cure", (), 0), ("cure", (), 1), ("look", (1,), ((0, 0), (3, 1))))
        self.same(run_code(book, code, home(RIG), 1)[1], ("nosign", 5))
        for x, r in ((0, 0), (1, 1), (2, 1)):
            self.same(run(book, program_of(RIG, code), x), ((0, 1), ("cure", r)))
        code = (("cure", (), 2), ("look", (), ((8, 0),)))
        for x in range(3):
            self.same(run(book, program_of(RIG, code), x), ((0,), ("cure", 2)))

    def test_rows_that_are_named_twice_are_told_anew(self):
        code = (CURE, ("look", (1,), ((0, 0), (1, 0))), ("look", (2,), ((0, 1), (1, 1))))
        inner = (("go", 1), ("if", ("sign", 0), (("cure", 0),), (("cure", 0),)))
        self.same(program_of(RIG, code), (("go", 2), ("if", ("sign", 0), inner, inner)))

    def test_rows_that_are_not_named_are_not_told(self):
        self.same(program_of(RIG, (CURE, ("cure", (0,) * 2000, 1), CURE)), (("cure", 0),))

    def test_reckoned_plainly(self):
        chance = random.Random(145)
        for book in random_books(400, 146):
            code = some_code(chance, book[0])
            program = program_of(book[0], code)
            self.same(program, plain_program(code))
            self.assertIs(is_program(book[0], program), True)

    def test_it_does_what_the_code_does_from_home(self):
        chance = random.Random(147)
        cured = 0
        for book in random_books(600, 148):
            code = some_code(chance, book[0])
            program = program_of(book[0], code)
            for x in range(book[0][0]):
                walk, last = run_code(book, code, home(book[0]), x)
                if last[0] == "cure":
                    self.same(run(book, program, x), (walk, last))
                    cured += 1
                elif last[0] != "nosign":
                    self.same(run(book, program, x)[0], walk)
                    self.same(run(book, program, x)[1][0], last[0])
        self.assertGreater(cured, 100)

    def test_refusals_in_order(self):
        for thing, where in NO_RIGS:
            self.refused(BadRig, where, program_of, thing, None)
        for thing, what in NO_CODES:
            self.refused(BadCode, what, program_of, RIG, thing)


class TooLarge(Strict):

    def test_two_hundred_statements_in_a_body(self):
        for many in (0, 1, 198, 199):
            code = (("cure", (1,) * many, 0),)
            self.same(program_of(RIG, code), (("go", 1),) * many + (("cure", 0),))
        for many in (200, 201, 2000):
            self.refused(TooMany, 201, program_of, RIG, (("cure", (1,) * many, 0),))
        # Looks with one branch go on in the same body; an if is one of it, too.
        for many, right_one in ((100, True), (101, False)):
            code = (("cure", (1,) * 99, 0), ("look", (1,) * many, ((0, 0),)))
            self.assertIs(first_refusal(code) is None, right_one)
            if right_one:
                self.assertEqual(len(program_of(RIG, code)), 200)
            else:
                self.refused(TooMany, 201, program_of, RIG, code)
        code = (CURE, ("look", (1,) * 199, ((0, 0), (1, 0))))
        self.assertEqual(len(program_of(RIG, code)), 200)
        self.refused(TooMany, 201, program_of, RIG, (CURE, ("look", (1,) * 200, ((0, 0), (1, 0)))))

    def test_in_each_body_of_an_if(self):
        long = ("cure", (1,) * 200, 0)
        for branches in (((0, 1), (1, 0)), ((0, 0), (1, 1)), ((0, 0), (1, 1), (2, 0))):
            self.refused(TooMany, 201, program_of, RIG, (CURE, long, ("look", (), branches)))

    def test_thirty_one_deep(self):
        self.assertIs(is_program(RIG, program_of(RIG, ladder(29))), True)
        for many in (30, 31, 500):
            self.refused(TooDeep, 31, program_of, RIG, ladder(many))

    def test_the_ifs_of_a_look_lie_one_within_another(self):
        wide = ("look", (), tuple((sign, 0) for sign in range(10)))
        for many, right_one in ((20, True), (21, False)):
            # The row of number 1 is the one to which the ladder leads at last.
            code = ladder(many, (), wide)
            if right_one:
                self.assertIs(is_program(RIG, program_of(RIG, code)), True)
            else:
                self.refused(TooDeep, 31, program_of, RIG, code)

    def test_two_thousand_statements(self):
        # Each of these looks doubles what is told behind it, and is one more.
        rows = [CURE]
        for number in range(12):
            rows.append(("look", (), ((0, number), (1, number))))
            code = tuple(rows)
            if number < 9:
                self.assertEqual(first_refusal(code), None)
                self.assertIs(is_program(RIG, program_of(RIG, code)), True)
            else:
                self.refused(TooMany, 2001, program_of, RIG, code)

    def test_just_two_thousand_statements(self):
        for more, due in ((0, None), (1, (TooMany, 2001))):
            # Nine ifs, ten bodies.
            rows = [("cure", (0,) * 198, 0), ("cure", (0,) * (199 + more), 0), ("cure", (0,) * 198, 1)]
            branches = tuple((sign, 0) for sign in range(8)) + ((8, 2), (9, 1))
            code = tuple(rows) + (("look", (), branches),)
            self.assertEqual(first_refusal(code), due)
            if due is None:
                program = program_of(RIG, code)
                self.same(made_program(RIG, program), program)
                self.refused(TooMany, 2001, made_program, RIG, program + (("go", 0),))
            else:
                # It is the 201st of its body as well.
                self.refused(TooMany, 2001, program_of, RIG, code)
        rows[2] = ("cure", (0,) * 197, 1)
        self.refused(TooMany, 201, program_of, RIG, tuple(rows) + (("look", (), branches),))

    def test_an_if_that_is_too_many_and_whose_bodies_lie_too_deep(self):
        # At the 30th body there stand 199 or 200 statements ahead of the if.
        for many, due in ((199, (TooDeep, 31)), (200, (TooMany, 201))):
            inner = ("look", (0,) * many, ((0, 0), (1, 0)))
            self.refused(*due, program_of, RIG, ladder(29, (), inner))

    def test_the_2001st_statement_is_an_if_whose_bodies_lie_too_deep(self):
        for many, due in ((48, (TooDeep, 31)), (49, (TooMany, 2001))):
            rows = [CURE, ("look", (0,) * many, ((0, 0), (1, 0)))]
            for number in range(29):
                # An if and a cure for each, and the gos ahead of it.
                steps = (0,) * (65 if number else 73)
                rows.append(("look", steps, ((0, 0), (1, number + 1))))
            code = tuple(rows)
            total = 29 * 2 + 28 * 65 + 73 + many
            self.assertEqual(total, 1951 + many)
            self.assertEqual(first_refusal(code), due)
            self.refused(*due, program_of, RIG, code)

    def test_looks_with_one_branch_need_no_room(self):
        code = (CURE,) + tuple(("look", (), ((0, number),)) for number in range(1999))
        self.same(program_of(RIG, code), (("cure", 0),))

    def test_whatever_is_met_first(self):
        chance = random.Random(149)
        told = {}
        for _ in range(600):
            rows = [CURE]
            longest = chance.choice((3, 20, 60, 150))
            near = chance.choice((1, 4, 60))
            straight = chance.random() < 0.5
            for number in range(1, chance.randint(2, 60)):
                steps = (1, 0) * (chance.randint(0, longest) // 2)
                signs = sorted(chance.sample(range(10), chance.choice((1, 2, 2, 2, 3))))
                ahead = [chance.randrange(max(0, number - near), number) for _ in signs]
                if straight:
                    ahead[:-1] = [0] * (len(ahead) - 1)
                rows.append(("look", steps, tuple(zip(signs, ahead))))
                if chance.random() < 0.05:
                    rows[-1] = ("cure", steps, number % 3)
            code = tuple(rows)
            due = first_refusal(code)
            told[due] = told.get(due, 0) + 1
            if due is None:
                self.same(program_of(RIG, code), plain_program(code))
            else:
                self.refused(*due, program_of, RIG, code)
        self.assertEqual(len(told), 4)
        self.assertGreater(min(told.values()), 10)


class ThereAndBack(Strict):

    def test_of_told_codes(self):
        lengths = set()
        for book in random_books(1500, 151, 0.6):
            code = code_for(book, home(book[0]))
            if code is not None:
                program = program_of(book[0], code)
                self.assertIs(right(book, program), True)
                self.same(code_of(book, program), code)
                lengths.add(min(len(code), 5))
        self.assertEqual(lengths, {1, 3, 4, 5})

    def test_of_codes_of_programs(self):
        chance = random.Random(152)
        lengths = set()
        for book in random_books(2500, 153, 0.85):
            program = some_body(chance, book[0], 1) + (("cure", 0),)
            if right(book, program):
                code = code_of(book, program)
                again = program_of(book[0], code)
                self.same(code_of(book, again), code)
                self.assertIs(same_program(book, program, again), True)
                lengths.add(min(len(code), 4))
        self.assertEqual(lengths, {1, 3, 4})

    def test_a_way_with_looks_on_it_that_are_joined(self):
        rig = (4, 2, ((0,), (1,), (0,), (1,)), ((0, 0, 1, 1), (0, 1, 0, 1)), ((0, 1),))
        code = code_for((rig, ((),)), home(rig))
        self.same(code_of((rig, ((),)), program_of(rig, code)), code)

    def test_unless_it_is_refused(self):
        # A way that is longer than a body is let.
        there = (("go", 1), ("go", 0))
        code = code_of(BOOK, (("times", 9, (("times", 9, there), ("times", 9, there))),) + PROGRAM)
        self.assertIs(code_right(BOOK, code, home(RIG)), True)
        self.refused(TooMany, 201, program_of, RIG, code)


if __name__ == "__main__":
    unittest.main()
