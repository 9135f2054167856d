"""[33] what programs do, [35] the example."""

import random
import unittest

from tests.helping import (
    BOOK, CURES, MOVES, NO_PROGRAMS, PROGRAM, RIG, SIGNS, Strict, random_books, replaced, some_body,
)
from waryrig.errors import BadProgram, TooMany
from waryrig.free import barring
from waryrig.lots import agreeing, all_faults
from waryrig.programs import is_program
from waryrig.rigs import neighbours
from waryrig.running import run

# There and back again, so that the walk gets 2 settings longer.
AND_BACK = (("go", 1), ("go", 0))
NO_BARS = (RIG, ((), ()))
LINE = (3, 3, CURES, SIGNS, ((0, 1), (1, 2)))
# It ends at setting 1, with as many settings come to as are let.
FULL = (("times", 9, (("times", 9, (("times", 9, AND_BACK),)),)),
        ("times", 9, (("times", 9, AND_BACK * 3),)), ("times", 9, AND_BACK * 3), ("go", 1))
FULL_WALK = (0,) + (1, 0) * 999 + (1,)


class Stopped(Exception):
    """Ends a plain run."""


def plain_holds(test, sign, flags):
    """Reckon whether a T holds, all of its parts asked."""
    told = {"sign": lambda s: sign == s, "flag": lambda f: bool(flags.get(f)),
            "not": lambda part: not plain_holds(part, sign, flags),
            "and": lambda one, two: all([plain_holds(one, sign, flags), plain_holds(two, sign, flags)]),
            "or": lambda one, two: any([plain_holds(one, sign, flags), plain_holds(two, sign, flags)])}
    return told[test[0]](*test[1:])


def plain_run(book, program, x):
    """Reckon run as its words say, with all that was seen asked anew at each go."""
    rig = book[0]
    walk = [0]
    flags = {}

    def go(g, place):
        joined = dict(neighbours(rig, walk[-1]))
        if g not in joined:
            raise Stopped(("nomove", place))
        lot = barring(book, agreeing(rig, all_faults(rig), x, tuple(walk)), joined[g])
        if lot is not None:
            raise Stopped(("barred", place, lot))
        if len(walk) == 2000:
            raise Stopped(("long", place))
        walk.append(g)

    def body(statements, ahead):
        for index, one in enumerate(statements):
            place = ahead + (index,)
            if one[0] == "go":
                go(one[1], place)
            elif one[0] == "set":
                flags[one[1]] = one[2]
            elif one[0] == "cure":
                raise Stopped(one)
            elif one[0] == "times":
                for _ in range(one[1]):
                    body(one[2], place + (0,))
            elif plain_holds(one[1], rig[3][walk[-1]][x], flags):
                body(one[2], place + (0,))
            else:
                body(one[3], place + (1,))

    try:
        body(program, ())
    except Stopped as stop:
        return (tuple(walk), stop.args[0])
    return (tuple(walk), ("end",))


class Example(Strict):

    def test_its_outcomes(self):
        self.same(run(BOOK, PROGRAM, 0), ((0, 1, 0, 2), ("cure", 0)))
        self.same(run(BOOK, PROGRAM, 1), ((0, 1, 0, 2), ("cure", 1)))
        self.same(run(book=BOOK, program=PROGRAM, x=2), ((0, 1), ("cure", 2)))


class Ends(Strict):

    def every(self, program, due, book=BOOK, faults=(0, 1, 2)):
        for x in faults:
            self.same(run(book, program, x), due)

    def test_a_cure(self):
        self.every((("cure", 2), ("go", 2)), ((0,), ("cure", 2)))
        self.every((("go", 1), ("cure", 0), ("cure", 1)), ((0, 1), ("cure", 0)))

    def test_a_cure_amid_a_times(self):
        self.every((("times", 9, (("go", 1), ("cure", 1), ("go", 0))),), ((0, 1), ("cure", 1)))
        program = (("times", 3, (("if", ("flag", 0), (("cure", 1),), ()), ("set", 0, 1)) + AND_BACK),)
        self.every(program, ((0, 1, 0), ("cure", 1)))

    def test_nothing_is_left(self):
        self.every((), ((0,), ("end",)))
        self.every((("go", 1), ("set", 0, 1)), ((0, 1), ("end",)))
        self.every((("if", ("sign", 0), (), (("cure", 0),)),), ((0,), ("end",)))

    def test_no_move(self):
        self.every((("go", 1), ("go", 2)), ((0, 1), ("nomove", (1,))))
        self.every((("times", 1, AND_BACK + (("go", 1), ("go", 2))),), ((0, 1, 0, 1), ("nomove", (0, 0, 3))))

    def test_a_go_to_where_one_stands(self):
        self.every((("go", 0),), ((0,), ("nomove", (0,))))
        self.every((("go", 1), ("go", 1)), ((0, 1), ("nomove", (1,))))

    def test_barred(self):
        self.every((("go", 2),), ((0,), ("barred", (0,), (2,))))
        program = (("set", 1, 1),) + AND_BACK + (("go", 2), ("cure", 0))
        for x in (0, 1):
            self.same(run(BOOK, program, x), ((0, 1, 0, 2), ("cure", 0)))
        self.same(run(BOOK, program, 2), ((0, 1, 0), ("barred", (3,), (2,))))

    def test_the_first_of_several_bars(self):
        book = (RIG, ((), ((0, 1, 2), (0, 2), (1,), (2,))))
        self.every((("go", 2),), ((0,), ("barred", (0,), (0, 1, 2))), book)
        program = AND_BACK + (("go", 2),)
        self.same(run(book, program, 0), ((0, 1, 0), ("barred", (2,), (1,))))
        self.same(run(book, program, 2), ((0, 1, 0), ("barred", (2,), (2,))))

    def test_the_2000th_setting_and_one_more(self):
        self.every(FULL[:-1], (FULL_WALK[:-1], ("end",)))
        self.every(FULL, (FULL_WALK, ("end",)))
        self.every(FULL + (("set", 0, 1), ("cure", 0)), (FULL_WALK, ("cure", 0)))
        self.every(FULL + (("go", 0),), (FULL_WALK, ("long", (4,))))
        self.every(FULL + (("times", 2, (("if", ("sign", 3), (), (("set", 3, 1), ("go", 0))),)),),
                   (FULL_WALK, ("long", (4, 0, 0, 1, 1))))
        self.assertEqual(len(FULL_WALK), 2000)

    def test_no_move_ahead_of_barred(self):
        # From home one cannot go to 2 at all, and from 1 only later.
        book = (LINE, ((), ((0,), (1,))))
        self.every((("go", 2),), ((0,), ("nomove", (0,))), book)
        self.every((("go", 1), ("go", 2)), ((0, 1), ("barred", (1,), (0,))), book, (0, 1))

    def test_no_move_ahead_of_long(self):
        for g in (1, 2):
            self.every(FULL + (("go", g),), (FULL_WALK, ("nomove", (4,))))

    def test_barred_ahead_of_long(self):
        book = (LINE, ((), ((0, 1),)))
        self.every(FULL + (("go", 2),), (FULL_WALK, ("barred", (4,), (0, 1))), book, (0, 1))
        self.every(FULL + (("go", 2),), (FULL_WALK, ("long", (4,))), book, (2,))
        self.every(FULL + (("go", 2),), (FULL_WALK, ("long", (4,))), (LINE, ((), ())))

    def test_places_in_bodies_within_bodies(self):
        inner = (("set", 1, 1), ("times", 3, (("set", 2, 0), ("go", 2))))
        program = (("set", 0, 1), ("times", 2, (
            ("if", ("flag", 0), (), (("go", 1),)), ("if", ("not", ("flag", 0)), (), inner))))
        self.every(program, ((0,), ("barred", (1, 0, 1, 1, 1, 0, 1), (2,))))
        program = (("if", ("sign", 0), (("times", 2, (("go", 1),)),), ()),)
        self.every(program, ((0, 1), ("nomove", (0, 0, 0, 0, 0))))


class Inside(Strict):

    def asked(self, test, due, ahead=(), book=NO_BARS, x=0):
        """See whether a T holds behind some statements."""
        program = ahead + (("if", test, (("cure", 1),), (("cure", 2),)),)
        self.same(run(book, program, x)[1], ("cure", 1 if due else 2))

    def test_flags(self):
        for f in range(8):
            self.asked(("flag", f), False)
            self.asked(("flag", f), True, (("set", f, 1),))
            self.asked(("flag", f), True, (("set", f, 1), ("set", f, 1)))
            self.asked(("flag", f), False, (("set", f, 1), ("set", f, 0)))
            self.asked(("flag", f), False, (("set", f, 0),))
            for other in range(8):
                self.asked(("flag", other), other == f, (("set", f, 1),))
            self.asked(("flag", f), True, (("set", f, 1), ("go", 1), ("times", 2, ())))

    def test_signs_of_where_one_stands(self):
        for x in range(3):
            for s in range(10):
                self.asked(("sign", s), s == 0, x=x)
                self.asked(("sign", s), s == SIGNS[1][x], (("go", 1),), x=x)
                self.asked(("sign", s), s == SIGNS[2][x], (("go", 1), ("go", 0), ("go", 2)), x=x)

    def test_not_and_or(self):
        yes, no = ("sign", 0), ("flag", 5)
        self.asked(("not", yes), False)
        self.asked(("not", no), True)
        self.asked(("not", ("not", yes)), True)
        for one in (yes, no):
            for two in (yes, no):
                self.asked(("and", one, two), one == yes and two == yes)
                self.asked(("or", one, two), one == yes or two == yes)
                self.asked(("and", ("not", one), ("or", two, no)), one == no and two == yes)

    def test_the_right_body_is_done(self):
        for x in range(3):
            program = (("go", 1), ("if", ("sign", 1), (("go", 0), ("cure", 2)), (("cure", 0),)))
            due = ((0, 1, 0), ("cure", 2)) if x == 2 else ((0, 1), ("cure", 0))
            self.same(run(BOOK, program, x), due)

    def test_it_goes_on_behind_an_if_and_a_times(self):
        program = (("if", ("sign", 0), AND_BACK, ()), ("times", 2, AND_BACK), ("cure", 1))
        for x in range(3):
            self.same(run(BOOK, program, x), ((0,) + (1, 0) * 3, ("cure", 1)))

    def test_times(self):
        for k in range(1, 10):
            walk, last = run(BOOK, (("times", k, AND_BACK),), 0)
            self.same((walk, last), ((0,) + (1, 0) * k, ("end",)))
        # The T is asked anew each time.
        body = (("if", ("flag", 0), (("set", 1, 1),), (("go", 1),)), ("set", 0, 1))
        self.same(run(BOOK, (("times", 4, body), ("cure", 0)), 1), ((0, 1), ("cure", 0)))

    def test_what_was_seen_where_no_if_asked(self):
        program = AND_BACK + (("go", 2), ("cure", 1))
        for x in (0, 1):
            self.same(run(BOOK, program, x), ((0, 1, 0, 2), ("cure", 1)))
        # Home too is seen, before any go.
        rig = (3, 3, CURES, ((0, 0, 1), (0, 0, 0), (0, 1, 0)), MOVES)
        for x in (0, 1):
            self.same(run((rig, BOOK[1]), (("go", 2), ("cure", 1)), x), ((0, 2), ("cure", 1)))
        self.same(run((rig, BOOK[1]), (("go", 2),), 2), ((0,), ("barred", (0,), (2,))))

    def test_the_sign_at_the_far_end_is_not_known_yet(self):
        book = (RIG, (((2,),), ()))
        self.same(run(book, (("go", 1), ("cure", 0)), 0), ((0,), ("barred", (0,), (2,))))

    def test_reckoned_plainly(self):
        chance = random.Random(121)
        told = {}
        for book in random_books(900, 122):
            program = some_body(chance, book[0], 1)
            self.assertIs(is_program(book[0], program), True)
            for x in range(book[0][0]):
                due = plain_run(book, program, x)
                self.same(run(book, program, x), due)
                told[due[1][0]] = told.get(due[1][0], 0) + (len(due[0]) > 2)
        self.assertEqual(sorted(told), ["barred", "cure", "end", "nomove"])
        self.assertGreater(min(told.values()), 10)

    def test_great_programs_come_to_an_end(self):
        body = (("set", 0, 1), ("if", ("flag", 0), (("set", 0, 0),), ())) * 60
        program = (("times", 9, (("times", 9, (("times", 9, body),)),)), ("cure", 1))
        self.same(run(BOOK, program, 0), ((0,), ("cure", 1)))


class Refusals(Strict):

    def test_in_order(self):
        self.refuses_wrong_books(run, None, 9)
        for thing, place in NO_PROGRAMS:
            self.refused(BadProgram, place, run, BOOK, thing, 9)
        self.refused(TooMany, 2001, run, BOOK, (("times", 1, (("set", 0, 0),) * 200),) * 10, 9)
        self.refuses_wrong_faults(run, (BOOK, PROGRAM))

    def test_a_program_of_another_rig(self):
        self.refused(BadProgram, (0,), run, ((1, 1, ((),), ((0,),), ()), ()), (("go", 1),), 0)
        lesser = (replaced(replaced(RIG, 1, 2), 2, ((0,), (1,), ())), BOOK[1])
        self.refused(BadProgram, (1, 0, 0), run, lesser, PROGRAM, 0)


if __name__ == "__main__":
    unittest.main()
