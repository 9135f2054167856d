"""[62] names, and named rigs."""

import unittest

from tests.helping import (
    ANYTHING, NAMED, NAMES, NO_RIGS, NO_TUPLES, Strict, greatest_rig, replaced,
)
from waryrig.errors import BadNamed, BadRig
from waryrig.names import is_name, is_named, made_named

RESERVED = """
    signs remedies fault setting move bar while and or not go cure if else times set clear flag
    put drop check parting stuck trips code open binds undo redo strike none
""".split()
NO_NAMES = (
    "", "abcdefghijklm", "a" * 13, "a" * 100000, "A", "Ab", "aB", "aZ9", "9", "9a", "0", "07", "_",
    "a_b", "_a", "a ", " a", "a b", " ", "a-b", "a.b", "a:", "a\n", "\na", "\x00", "a\x7f", "%",
    "\u00e9", "a\u00e9", "\u0430", "a\u0663", "\u00b2", "a\u00b2", "\u00aa", "\u017f",
    "a\U0001d41a", "\ud800",
)
GREATEST = greatest_rig()


def names(letter, many):
    """Return so many names that begin with a letter."""
    return tuple(letter + str(number) for number in range(many))


GREATEST_NAMES = (names("f", 24), names("r", 16), names("g", 40), names("s", 10))


class IsName(Strict):

    def test_names(self):
        for thing in ("a", "z", "fuse", "a0", "a9", "z0z", "abcdefghijkl", "a12345678901", "say",
                      "opened", "open1", "andor", "nota", "bars", "sign", "remedy", "faults", "f"):
            self.same(is_name(thing), True)

    def test_lengths(self):
        for many in range(1, 13):
            self.same(is_name("b" * many), True)
        for many in (0, 13, 14, 60001):
            self.same(is_name("b" * many), False)

    def test_reserved_words(self):
        self.assertEqual(len(set(RESERVED)), 31)
        for word in RESERVED:
            self.same(is_name(word), False)
            self.same(is_name(word + "x"), True)
            self.same(is_name("x" + word), True)
        self.same(is_name(thing="signs"), False)

    def test_what_is_none(self):
        for thing in NO_NAMES:
            self.same(is_name(thing), False)
        for thing in ANYTHING:
            self.same(is_name(thing), thing == "abc")
        self.same(is_name(("a",)), False)

    def test_each_sign_by_its_code(self):
        small = "abcdefghijklmnopqrstuvwxyz"
        for code in range(0x300):
            self.same(is_name(chr(code)), chr(code) in small)
            self.same(is_name("q" + chr(code)), chr(code) in small + "0123456789")


class Named(Strict):

    def test_they_are_returned(self):
        self.same(made_named(NAMED), NAMED)
        self.same(made_named(thing=(GREATEST, GREATEST_NAMES)), (GREATEST, GREATEST_NAMES))
        self.same(is_named(NAMED), True)
        self.same(is_named(thing=(GREATEST, GREATEST_NAMES)), True)

    def test_unlike_within_a_sort_alone(self):
        alike = (("a", "b"), ("a", "b"), ("b", "a"), ("a", "b"))
        self.same(made_named((NAMED[0], alike)), (NAMED[0], alike))
        for sort in range(4):
            wrong = replaced(alike, sort, ("a", "a"))
            self.refused(BadNamed, sort, made_named, (NAMED[0], wrong))
            self.same(is_named((NAMED[0], wrong)), False)
        late = GREATEST_NAMES[2][:39] + ("g0",)
        self.refused(BadNamed, 2, made_named, (GREATEST, replaced(GREATEST_NAMES, 2, late)))

    def test_as_many_as_the_rig_has(self):
        for sort, letter in enumerate("frg"):
            due = len(GREATEST_NAMES[sort])
            for many in (0, 1, due - 1, due + 1, 50):
                wrong = replaced(GREATEST_NAMES, sort, names(letter, many))
                self.refused(BadNamed, sort, made_named, (GREATEST, wrong))
            for many in (0, 1, 3):
                wrong = replaced(NAMES, sort, names(letter, many))
                self.refused(BadNamed, sort, made_named, (NAMED[0], wrong))

    def test_more_signs_than_the_greatest_at_most_ten(self):
        for greatest in range(10):
            rig = replaced(NAMED[0], 3, ((0, greatest), (greatest // 2, 0)))
            for many in range(13):
                thing = (rig, replaced(NAMES, 3, names("s", many)))
                due = greatest < many <= 10
                self.same(is_named(thing), due)
                if due:
                    self.same(made_named(thing), thing)
                else:
                    self.refused(BadNamed, 3, made_named, thing)

    def test_what_is_no_name(self):
        for name in tuple(NO_NAMES) + tuple(RESERVED) + (None, 0, True, (), ("a",)):
            for sort in range(4):
                for at in range(2):
                    wrong = replaced(NAMES, sort, replaced(NAMES[sort], at, name))
                    self.refused(BadNamed, sort, made_named, (NAMED[0], wrong))
                    self.same(is_named((NAMED[0], wrong)), False)

    def test_no_pair_or_no_four(self):
        wrong = NO_TUPLES + (
            (), (NAMED,), NAMED[:1], NAMED + ((),), (NAMED[0], ()), (NAMED[0], NAMES[:3]),
            (NAMED[0], NAMES + (("a",),)), (NAMED[0], None), (NAMED[0], "abcd"), (NAMED[0], 4),
            "ab", (None, None), (NAMES, NAMED[0]), (None, NAMES[:3]),
        )
        for thing in wrong:
            self.refused(BadNamed, -1, made_named, thing)
            self.same(is_named(thing), False)

    def test_the_rig_ahead_of_the_names(self):
        for rig, where in NO_RIGS:
            for four in (NAMES, (None,) * 4, ("a", "b", "c", "d")):
                self.refused(BadRig, where, made_named, (rig, four))
                self.same(is_named((rig, four)), False)
            self.refused(BadNamed, -1, made_named, (rig, NAMES[:3]))

    def test_the_first_of_the_four_that_is_none(self):
        for sort in range(4):
            for thing in NO_TUPLES + ((), "fw", ("f", None)):
                wrong = NAMES[:sort] + (thing,) * (4 - sort)
                self.refused(BadNamed, sort, made_named, (NAMED[0], wrong))
            wrong = replaced((None,) * 4, sort, NAMES[sort])
            self.refused(BadNamed, int(sort == 0), made_named, (NAMED[0], wrong))

    def test_wrong_samples(self):
        self.refuses_wrong_named(made_named)

    def test_a_judge(self):
        for thing in ANYTHING:
            self.same(is_named(thing), False)
            self.same(is_named((NAMED[0], thing)), False)
            self.same(is_named((thing, NAMES)), False)
            for sort in range(4):
                # Of signs there may be more names than are shown.
                due = sort == 3 and thing in (tuple("abcd"), tuple("abcde"))
                self.same(is_named((NAMED[0], replaced(NAMES, sort, thing))), due)


if __name__ == "__main__":
    unittest.main()
