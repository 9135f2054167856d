"""[67] to [70] programs as texts: how they are read."""

import itertools
import random
import unittest

from tests.helping import NAMED, Strict, some_body, some_named, some_test
from waryrig.errors import BadNumber, BadText, NoName, Refused, TooDeep, TooMany
from waryrig.printprogram import print_program
from waryrig.programs import made_program
from waryrig.readprogram import read_program

NO, YES = ("sign", 0), ("sign", 1)


def flag(number):
    """Return the T that asks for a flag."""
    return ("flag", number)


def read(text):
    """Read a program with the sample names."""
    return read_program(NAMED, text)


def test_of(text):
    """Return the T that a text tells."""
    ((_, test, _, _),) = read("if " + text + " {}")
    return test


def deep_of(test):
    """Return how deep a T is."""
    if test[0] in ("sign", "flag"):
        return 1
    return 1 + max(deep_of(part) for part in test[1:])


def place_in(text, word, number=1):
    """Return the place at which a word stands for the time of this number."""
    at = -1
    for _ in range(number):
        at = text.index(word, at + 1)
    return at


def plain_test_text(chance, test):
    """Tell a T with brackets around each part, and sometimes around all of it."""
    if test[0] == "sign":
        text = ("no", "yes")[test[1]]
    elif test[0] == "flag":
        text = "flag %d" % test[1]
    elif test[0] == "not":
        text = "not (" + plain_test_text(chance, test[1]) + ")"
    else:
        text = " ".join(("(" + plain_test_text(chance, test[1]) + ")", test[0],
                         "(" + plain_test_text(chance, test[2]) + ")"))
    return text


class Telling:
    """Tells a T with as few brackets as can be, and keeps the first place that is too deep."""

    LEVELS = {"or": 1, "and": 2, "not": 3, "flag": 4, "sign": 4}

    def __init__(self, test):
        self.text = "if "
        self.place = None
        self.tell(test, 0, 0)

    def too_deep(self, place):
        if self.place is None:
            self.place = place

    def word(self, word):
        place = len(self.text)
        self.text += word
        return place

    def tell(self, test, level, brackets):
        """Tell the T, in brackets if its level is lower, and return how deep it is."""
        own = self.LEVELS[test[0]]
        if own >= level:
            return self.tell_plainly(test, own, brackets)
        place = self.word("(")
        if brackets == 6:
            self.too_deep(place)
        deep = self.tell_plainly(test, own, brackets + 1)
        self.word(")")
        return deep

    def tell_plainly(self, test, own, brackets):
        if own == 4:
            self.word("flag %d" % test[1] if test[0] == "flag" else ("no", "yes")[test[1]])
            return 1
        if test[0] == "not":
            place = self.word("not ")
            deep = 1 + self.tell(test[1], own, brackets)
        else:
            left = self.tell(test[1], own, brackets)
            place = self.word(" " + test[0] + " ") + 1
            deep = 1 + max(left, self.tell(test[2], own + 1, brackets))
        if deep > 6:
            self.too_deep(place)
        return deep


class Examples(Strict):

    def test_the_examples(self):
        self.same(read(""), ())
        self.same(read("go far; if yes { cure wire } else { cure fuse }"),
                  (("go", 1), ("if", YES, (("cure", 1),), (("cure", 0),))))
        self.same(read_program(named=NAMED, text="times 2 { set 0; clear 7 }"),
                  (("times", 2, (("set", 0, 1), ("set", 7, 0))),))
        self.refused(NoName, 3, read, "go near")
        self.refused(BadNumber, 4, read, "set 8")
        self.refused(BadText, 7, read, "go far;")
        self.refused(BadText, 11, read, "if yes and { }")

    def test_nothing(self):
        for text in ("", " ", "     "):
            self.same(read(text), ())


class Statements(Strict):

    def test_go_and_cure(self):
        self.same(read("go home"), (("go", 0),))
        self.same(read("cure fuse; cure wire; go far"), (("cure", 0), ("cure", 1), ("go", 1)))
        for word in ("near", "fuse", "f", "yes"):
            self.refused(NoName, 3, read, "go " + word)
        for word in ("tape", "home", "f", "yes"):
            self.refused(NoName, 5, read, "cure " + word + " 9a")
        for word in ("go", "cure", "home1home1home", "0", ";", "{"):
            self.refused(BadText, 3, read, "go " + word)
            self.refused(BadText, 5, read, "cure " + word)
        self.refused(BadText, 2, read, "go")
        self.refused(BadText, 4, read, "cure")
        self.refused(BadText, 8, read, "go home home")

    def test_set_and_clear(self):
        for number in range(8):
            self.same(read("set %d" % number), (("set", number, 1),))
            self.same(read("clear %d" % number), (("set", number, 0),))
        for word in ("8", "9", "10", "17", "70", "1" * 1000):
            self.refused(BadNumber, 4, read, "set " + word + " 9a")
            self.refused(BadNumber, 6, read, "clear " + word)
        for word in ("07", "00", "a", "flag", "-", "0a", "fuse", "01"):
            self.refused(BadText, 4, read, "set " + word)
            self.refused(BadText, 6, read, "clear " + word)
        self.refused(BadText, 3, read, "set")
        self.refused(BadText, 8, read, "clear 1 2")

    def test_times(self):
        for many in range(1, 10):
            self.same(read("times %d { go far }" % many), (("times", many, (("go", 1),)),))
        self.same(read("times 3 {}"), (("times", 3, ()),))
        self.same(read("times 3 { }; go far"), (("times", 3, ()), ("go", 1)))
        for word in ("0", "10", "11", "99", "9" * 1000):
            self.refused(BadNumber, 6, read, "times " + word)
        for word in ("07", "{", "a", "times"):
            self.refused(BadText, 6, read, "times " + word)
        self.refused(BadText, 5, read, "times")
        self.refused(BadText, 8, read, "times 2 go far")
        self.refused(BadText, 7, read, "times 2")
        self.refused(BadText, 9, read, "times 2 {")
        self.refused(BadText, 16, read, "times 2 { go far")
        self.refused(BadText, 18, read, "times 2 { go far; }")
        self.refused(BadText, 10, read, "times 2 { ; }")
        self.refused(BadText, 19, read, "times 2 { go far } else {}")

    def test_if(self):
        go, cure = (("go", 1),), (("cure", 0),)
        self.same(read("if yes { go far }"), (("if", YES, go, ()),))
        self.same(read("if yes { go far } else {}"), (("if", YES, go, ()),))
        self.same(read("if yes {} else { cure fuse }"), (("if", YES, (), cure),))
        self.same(read("if yes{}else{}"), (("if", YES, (), ()),))
        self.same(read("if yes { go far } else { cure fuse }; go far"), (("if", YES, go, cure),) + go)
        self.same(read("if no { if yes { go far } } else { cure fuse }"),
                  (("if", NO, (("if", YES, go, ()),), cure),))
        self.same(read("if no { if yes { go far } else { cure fuse } }"),
                  (("if", NO, (("if", YES, go, cure),), ()),))
        self.same(read("if no {} else { if yes { go far } }"), (("if", NO, (), (("if", YES, go, ()),)),))
        for text, place in (
            ("if", 2), ("if {}", 3), ("if yes", 6), ("if yes go far", 7), ("if yes {", 8),
            ("if yes { go far", 15), ("if yes {} else", 14), ("if yes {} else go far", 15),
            ("if yes {} else {} else {}", 18), ("if yes {}; else {}", 11), ("else {}", 0),
            ("if yes {} go far", 10), ("if yes {} {}", 10), ("if yes {;}", 8), ("if yes { go far;}", 16),
            ("if yes { go far } else { go far ) }", 32), ("if yes { } }", 11), ("}", 0), ("{}", 0),
        ):
            self.refused(BadText, place, read, text)

    def test_statements_with_one_sign_between_them(self):
        self.same(read("go far;go home ;cure fuse"), (("go", 1), ("go", 0), ("cure", 0)))
        for text, place in (
            (";", 0), ("; go far", 0), ("go far;", 7), ("go far; ", 8), ("go far;; go far", 7),
            ("go far go far", 7), ("go far: go far", 6), ("go far }", 7), ("times 2 { go far; }", 18),
            ("home", 0), ("go far; home", 8), ("goes far", 0), ("flag 1", 0), ("bar 1", 0), ("put p", 0),
        ):
            self.refused(BadText, place, read, text)

    def test_as_it_is_told(self):
        chance = random.Random(441)
        for _ in range(300):
            named, _ = some_named(chance)
            program = some_body(chance, named[0], 1)
            try:
                text = print_program(named, program)
            except BadNumber:
                continue
            self.same(read_program(named, text), program)


class Tests(Strict):

    def test_signs_and_flags(self):
        self.same(test_of("no"), NO)
        self.same(test_of("yes"), YES)
        for number in range(8):
            self.same(test_of("flag %d" % number), flag(number))
        for word in ("8", "9", "10", "70"):
            self.refused(BadNumber, 8, read, "if flag " + word + " 9a")
        for word in ("07", "00", "yes", "a", "{", "flag"):
            self.refused(BadText, 8, read, "if flag " + word)
        for word in ("maybe", "fuse", "far", "f", "flags", "nots"):
            self.refused(NoName, 3, read, "if " + word + " 9a")
            self.refused(NoName, 10, read, "if yes or " + word)

    def test_joined_from_the_left(self):
        one, two, three, four = (flag(number) for number in (1, 2, 3, 4))
        self.same(test_of("flag 1 or flag 2 or flag 3"), ("or", ("or", one, two), three))
        self.same(test_of("flag 1 and flag 2 and flag 3"), ("and", ("and", one, two), three))
        self.same(test_of("flag 1 or flag 2 or flag 3 or flag 4"),
                  ("or", ("or", ("or", one, two), three), four))
        self.same(test_of("flag 1 or (flag 2 or flag 3)"), ("or", one, ("or", two, three)))
        self.same(test_of("flag 1 and (flag 2 and flag 3)"), ("and", one, ("and", two, three)))

    def test_and_ahead_of_or(self):
        one, two, three, four = (flag(number) for number in (1, 2, 3, 4))
        self.same(test_of("flag 1 and flag 2 or flag 3"), ("or", ("and", one, two), three))
        self.same(test_of("flag 1 or flag 2 and flag 3"), ("or", one, ("and", two, three)))
        self.same(test_of("flag 1 and flag 2 or flag 3 and flag 4"),
                  ("or", ("and", one, two), ("and", three, four)))
        self.same(test_of("flag 1 and (flag 2 or flag 3) and flag 4"),
                  ("and", ("and", one, ("or", two, three)), four))
        self.same(test_of("(flag 1 or flag 2) and flag 3"), ("and", ("or", one, two), three))

    def test_not(self):
        self.same(test_of("not yes"), ("not", YES))
        self.same(test_of("not not yes"), ("not", ("not", YES)))
        self.same(test_of("not not not flag 7"), ("not", ("not", ("not", flag(7)))))
        self.same(test_of("not yes and no"), ("and", ("not", YES), NO))
        self.same(test_of("yes and not no or not yes"),
                  ("or", ("and", YES, ("not", NO)), ("not", YES)))
        self.same(test_of("not (yes and no)"), ("not", ("and", YES, NO)))
        self.same(test_of("not (not (yes))"), ("not", ("not", YES)))

    def test_brackets_make_nothing_deeper(self):
        for many in range(7):
            self.same(test_of("(" * many + "yes" + ")" * many), YES)
        self.same(test_of("((((((not not not not not yes))))))"),
                  test_of("not not not not not yes"))
        self.same(test_of("(yes) or ((no))"), ("or", YES, NO))

    def test_brackets_six_and_seven_deep(self):
        self.refused(TooDeep, 9, read, "if (((((((yes))))))) {}")
        self.refused(TooDeep, 9, read, "if ((((((( 9a")
        self.refused(TooDeep, 9, read, "if (((((((")
        self.refused(BadText, 9, read, "if ((((((")
        # Those that are closed again do not count.
        self.same(test_of("((((((yes)))))) or ((((((no))))))"), ("or", YES, NO))
        self.same(test_of("(((((yes) and (no)))))"), ("and", YES, NO))
        self.refused(TooDeep, 20, read, "if ((((((yes)) or (((no")
        self.refused(BadText, 20, read, "if ((((((yes)) or ((9a")
        self.refused(TooDeep, 17, read, "if ((((( yes or ((yes")

    def test_wrong_tests(self):
        for text, place in (
            ("if and", 3), ("if yes and", 10), ("if yes or", 9), ("if yes and or no", 11),
            ("if not", 6), ("if not {}", 7), ("if not and", 7), ("if (", 4), ("if ()", 4),
            ("if (yes", 7), ("if (yes {}", 8), ("if yes) {}", 6), ("if (yes no)", 8), ("if yes no {}", 7),
            ("if yes not no {}", 7), ("if (yes and) no", 11), ("if flag", 7), ("if flag 1 2", 10),
            ("if yes, no", 6), ("if yes or else", 10), ("if 1 {}", 3), ("if yes and (no or) {}", 17),
        ):
            self.refused(BadText, place, read, text)

    def test_any_test_with_brackets(self):
        chance = random.Random(442)
        for _ in range(400):
            test = some_test(chance, 6)
            if "('sign', 2)" not in repr(test):
                self.same(test_of(plain_test_text(chance, test)), test)


class DeepTests(Strict):

    def test_six_and_seven_deep(self):
        for word in ("and", "or"):
            text = "if " + (" " + word + " ").join(["yes"] * 6) + " {}"
            self.same(deep_of(read(text)[0][1]), 6)
            text = "if " + (" " + word + " ").join(["yes"] * 7) + " {}"
            self.refused(TooDeep, place_in(text, word, 6), read, text)
        self.same(deep_of(test_of("not not not not not yes")), 6)
        self.refused(TooDeep, 3, read, "if not not not not not not yes {}")

    def test_at_the_word_that_would_make_it_so(self):
        self.refused(TooDeep, 3, read, "if not (not not not not not yes) {}")
        # With seven of them it is the second one that makes it seven deep.
        self.refused(TooDeep, 7, read, "if not not not not not not not yes {}")
        self.refused(TooDeep, 3 + 4 * 93, read, "if" + " not" * 99 + " yes {}")
        text = "if not not not not not yes and no {}"
        self.refused(TooDeep, text.index("and"), read, text)
        text = "if no or not not not not not yes {}"
        self.refused(TooDeep, text.index("or"), read, text)
        text = "if no and not not not not not yes or no {}"
        self.refused(TooDeep, text.index("and"), read, text)
        text = "if no or yes and not not not not yes {}"
        self.refused(TooDeep, text.index("or"), read, text)

    def test_an_or_behind_a_bracket(self):
        six = "(not not not not not yes)"
        text = "if " + six + " or no {}"
        self.refused(TooDeep, text.index(" or") + 1, read, text)
        text = "if no or " + six + " {}"
        self.refused(TooDeep, text.index("or"), read, text)
        text = "if no or (yes or " + six + ") {}"
        self.refused(TooDeep, place_in(text, "or", 2), read, text)

    def test_asked_when_all_is_read_that_it_joins(self):
        six = "(not not not not not yes)"
        begun = "if " + six + " and "
        place = begun.index(" and") + 1
        # What is wrong in what it joins goes ahead of it.
        self.refused(NoName, len(begun), read, begun + "maybe")
        self.refused(BadText, len(begun), read, begun)
        self.refused(BadText, len(begun), read, begun + "9a")
        self.refused(BadNumber, len(begun) + 5, read, begun + "flag 8")
        self.refused(BadText, len(begun) + 4, read, begun + "(no ")
        self.refused(NoName, len(begun) + 9, read, begun + "(no and (maybe))")
        self.refused(TooDeep, place, read, begun + "(no)")
        # It goes ahead of what is asked of the word behind that.
        for tail in ("", " ", " 9a", " A", " )", " go", " {", " and maybe", " or maybe"):
            self.refused(TooDeep, place, read, begun + "no" + tail)
            self.refused(TooDeep, place, read, begun + "flag 0" + tail)
            self.refused(TooDeep, 3, read, "if not " + six + tail)
        begun = "if " + six + " or "
        place = begun.index(" or") + 1
        self.refused(NoName, len(begun) + 7, read, begun + "no and maybe")
        self.refused(BadText, len(begun) + 6, read, begun + "no and")
        for tail in ("", " 9a", " )", " {", " or maybe"):
            self.refused(TooDeep, place, read, begun + "no" + tail)
            self.refused(TooDeep, place, read, begun + "no and yes" + tail)

    def test_thousands_of_not(self):
        text = "if" + " not" * 14000
        self.refused(BadText, len(text), read, text)
        self.refused(BadText, len(text) + 1, read, text + " {}")
        self.refused(NoName, len(text) + 1, read, text + " maybe")
        self.refused(TooDeep, 3 + 4 * (14000 - 6), read, text + " yes")

    def test_long_rows_of_and_and_or(self):
        for word in ("and", "or"):
            text = "if " + (" " + word + " ").join(["yes"] * 5000)
            self.refused(TooDeep, place_in(text, word, 6), read, text)

    def test_each_test_is_as_deep_as_its_words_say(self):
        chance = random.Random(443)
        told = [0, 0]
        for _ in range(2000):
            test = some_test(chance, 8)
            if "('sign', 2)" in repr(test):
                continue
            words = "if " + plain_test_text(chance, test) + " {}"
            if deep_of(test) > 6:
                # It may be for its brackets.
                self.assertRaises(TooDeep, read, words)
            else:
                self.same(read(words)[0][1], test)
            told[deep_of(test) > 6] += 1
        self.assertGreater(min(told), 50)


    def test_the_place_of_what_is_too_deep(self):
        chance = random.Random(446)
        places = set()
        for _ in range(3000):
            test = some_test(chance, 9)
            if "('sign', 2)" in repr(test):
                continue
            told = Telling(test)
            text = told.text + " {}"
            if told.place is None:
                self.same(read(text)[0][1], test)
            else:
                self.refused(TooDeep, told.place, read, text)
                places.add(told.place)
        self.assertGreater(len(places), 50)


class HowMany(Strict):

    def test_two_hundred_in_a_body(self):
        for ahead, behind in (("", ""), ("times 2 { ", " }"), ("if yes { ", " }"),
                              ("if yes {} else { ", " }")):
            text = ahead + "; ".join(["set 0"] * 200) + behind
            made_program(NAMED[0], read(text))
            text = ahead + "; ".join(["set 0"] * 201) + behind
            self.refused(TooMany, place_in(text, "set", 201), read, text)

    def test_two_thousand_in_all(self):
        block = "times 1 { " + "; ".join(["set 0"] * 199) + " }"
        text = "; ".join([block] * 10)
        self.assertEqual(len(made_program(NAMED[0], read(text))), 10)
        for last in ("go far", "go near", "times 0", "if maybe", "cure"):
            self.refused(TooMany, len(text) + 2, read, text + "; " + last)
        self.refused(BadText, len(text) + 2, read, text + "; far")
        self.refused(BadText, len(text) + 1, read, text + ";")
        # Those in the bodies of a statement are counted behind it.
        text = block + "; " + "; ".join(["if yes { set 0 } else { set 1 }"] * 190)
        text += "; " + "; ".join([block] * 6) + "; " + "; ".join(["set 2"] * 2)
        rest = 2000 - 200 - 3 * 190 - 1200 - 2
        self.assertEqual(rest, 28)
        body = "times 1 { " + "; ".join(["set 3"] * 27) + " }; "
        made_program(NAMED[0], read(body + text))
        body = "times 1 { " + "; ".join(["set 3"] * 28) + " }; "
        self.refused(TooMany, len(body + text) - 5, read, body + text)

    def test_what_cannot_stand_there_ahead_of_too_many(self):
        text = "; ".join(["set 0"] * 200) + "; "
        for word in ("", "9a", "far", "}", "else", ";"):
            self.refused(BadText, len(text), read, text + word)
        for word in ("set", "go near", "cure A", "if", "times", "clear 9"):
            self.refused(TooMany, len(text), read, text + word)


class HowDeep(Strict):

    def test_times_within_times(self):
        three = "times 1 { times 2 { times 3 { go far } } }"
        self.same(read(three), (("times", 1, (("times", 2, (("times", 3, (("go", 1),)),)),)),))
        four = "times 1 { times 2 { times 3 { times 4 { go far } } } }"
        self.refused(TooDeep, place_in(four, "times", 4), read, four)
        self.refused(TooDeep, 30, read, "times 1 { times 2 { times 3 { times 0")
        self.refused(TooDeep, 30, read, "times 1 { times 2 { times 3 { times")
        text = "times 1 { times 2 { if yes { if no {} else { times 3 { if yes { times 4 {"
        self.refused(TooDeep, place_in(text, "times", 4), read, text)
        # Beside one another they may be any many.
        self.same(len(read("; ".join([three] * 60))), 60)
        text = "times 1 { times 1 { times 1 {}; times 1 {} }; times 1 { times 1 {} } }"
        self.same(read(text)[0][1], 1)

    def test_too_many_ahead_of_too_deep(self):
        body = "; ".join(["set 0"] * 200)
        text = "times 1 { times 1 { times 1 { " + body + "; times 1 {} } } }"
        self.refused(TooMany, place_in(text, "times", 4), read, text)
        body = "; ".join(["set 0"] * 199)
        text = "times 1 { times 1 { times 1 { " + body + "; times 1 {} } } }"
        self.refused(TooDeep, place_in(text, "times", 4), read, text)

    def test_bodies_thirty_and_thirty_one_within_one_another(self):
        for begun, ended in (("if yes { ", " }"), ("if yes {} else { ", " }")):
            for inner in ("go far", "go far; set 0"):
                text = begun * 29 + inner + ended * 29
                made_program(NAMED[0], read(text))
                text = begun * 29 + "if yes { " + inner + " }" + ended * 29
                self.refused(TooDeep, len(begun) * 29 + 7, read, text)
            text = begun * 28 + "if yes {}" + ended * 28
            made_program(NAMED[0], read(text))
            text = begun * 29 + "if yes {}" + ended * 29
            self.refused(TooDeep, len(begun) * 29 + 7, read, text)
        text = "if yes { " * 26 + "times 1 { times 1 { times 1 { if no {"
        self.refused(TooDeep, len(text) - 1, read, text)
        text = "if yes { " * 27 + "times 1 { times 1 { times 1 {"
        self.refused(TooDeep, len(text) - 1, read, text)
        text = "if yes { " * 29 + "if no go"
        self.refused(BadText, len(text) - 2, read, text)
        self.refused(BadText, len(text) - 3, read, text[:-3])

    def test_all_that_is_read_is_a_program(self):
        chance = random.Random(444)
        words = ["go far", "cure wire", "set 3", "if yes {", "}", "} else {", "times 2 {", ";", "; go home"]
        told = 0
        for _ in range(3000):
            text = " ".join(chance.choice(words) for _ in range(chance.randint(1, 9)))
            try:
                program = read(text)
            except Refused as error:
                self.assertTrue(0 <= error.what <= len(text))
            else:
                self.same(made_program(NAMED[0], program), program)
                told += 1
        self.assertGreater(told, 100)


class Refusals(Strict):

    def test_in_order(self):
        self.refuses_wrong_named(read_program, None)
        for text in (None, 0, True, (), ("go far",)):
            self.refused(BadText, -1, read_program, NAMED, text)
        self.refused(BadText, 9, read_program, NAMED, "go near; \n")

    def test_names_are_those_of_the_rig(self):
        chance = random.Random(445)
        for _ in range(50):
            named, _ = some_named(chance)
            _, (faults, remedies, settings, signs) = named
            for number, name in enumerate(settings):
                self.same(read_program(named, "go " + name), (("go", number),))
            for number, name in enumerate(remedies):
                self.same(read_program(named, "cure " + name), (("cure", number),))
            for number, name in enumerate(signs):
                self.same(read_program(named, "if " + name + "{}"),
                          (("if", ("sign", number), (), ()),))
            for name in itertools.chain(faults, remedies, signs):
                if name not in settings:
                    self.refused(NoName, 3, read_program, named, "go " + name)


if __name__ == "__main__":
    unittest.main()
