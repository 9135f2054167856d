"""[64], [65] rigs as texts: how they are read."""

import itertools
import random
import unittest

from tests.helping import NAMED, RIG_TEXT, Strict, greatest_named, some_named
from waryrig.errors import BadText, NoName, TooMany, Twice
from waryrig.names import is_named
from waryrig.printrig import print_rig
from waryrig.readrig import read_rig

# A rig whose moves are to be put behind it.
LINE = "signs s; remedies r; fault f:; setting a: s; setting b: s; setting c: s; setting d: s;"
HEAD = "signs no yes; remedies fuse wire; "


def numbered(letter, many):
    """Return so many names that begin with a letter, with blanks between them."""
    return " ".join(letter + str(number) for number in range(many))


def with_faults(many):
    """Return a text up to the entries of so many faults, without a setting."""
    return "signs s; remedies r; " + " ".join("fault f%d:;" % x for x in range(many))


def with_settings(many):
    """Return the text of a rig of so many settings."""
    return "signs s; remedies r; fault f:; " + " ".join(
        "setting g%d: s;" % g for g in range(many))


def with_moves(many):
    """Return the text of a rig with 40 settings and so many moves."""
    pairs = itertools.islice(itertools.combinations(range(40), 2), many)
    return with_settings(40) + "".join(" move g%d - g%d;" % pair for pair in pairs)


def told_otherwise(chance, named):
    """Tell a named rig with remedies, moves and their ends in any order."""
    (_, _, cures, signs, moves), (faults, remedies, settings, shown) = named
    entries = ["signs " + " ".join(shown), "remedies " + " ".join(remedies)]
    for name, entry in zip(faults, cures):
        row = [remedies[r] for r in entry]
        chance.shuffle(row)
        entries.append("fault " + name + " : " + "  ".join(row))
    for name, row in zip(settings, signs):
        entries.append("setting  " + name + ":" + " ".join(shown[sign] for sign in row))
    pairs = [chance.sample(pair, 2) for pair in moves]
    chance.shuffle(pairs)
    entries += ["move " + settings[g] + chance.choice(("-", " - ", " -")) + settings[h]
                for g, h in pairs]
    return chance.choice((";", " ; ", "; ")).join(entries) + ";"


class ReadRig(Strict):

    def test_the_example(self):
        self.same(read_rig(RIG_TEXT), NAMED)
        self.same(read_rig(text=RIG_TEXT), NAMED)

    def test_faults_without_cures_and_rigs_without_moves(self):
        due = ((1, 1, ((),), ((0,),), ()), (("f",), ("r",), ("h",), ("s",)))
        self.same(read_rig("signs s; remedies r; fault f:; setting h: s;"), due)
        self.same(read_rig("signs s;remedies r;fault f:;setting h:s;"), due)
        self.same(read_rig("signs  s ;remedies r ;  fault  f  :  ; setting h : s ; "), due)

    def test_moves_either_way_round_and_in_any_order(self):
        due = ((0, 1), (0, 3), (1, 2), (2, 3))
        for text in ("move a - b; move a - d; move b - c; move c - d;",
                     "move d - c; move c - b; move d - a; move b - a;",
                     "move c-d;move b-c;move a - d;move  b  -  a ;"):
            self.same(read_rig(LINE + text)[0][4], due)
        for pairs in itertools.permutations(("a - b", "d - a", "c - b")):
            text = LINE + "".join(" move " + pair + ";" for pair in pairs)
            self.same(read_rig(text)[0][4], ((0, 1), (0, 3), (1, 2)))

    def test_remedies_in_any_order(self):
        for row in itertools.permutations(("r0", "r1", "r2")):
            for many in range(4):
                text = "signs s; remedies r0 r1 r2; fault f: " + " ".join(row[:many]) + "; setting h: s;"
                self.same(read_rig(text)[0][2], (tuple(sorted(int(r[1]) for r in row[:many])),))

    def test_numbered_as_they_come(self):
        text = ("signs z a m; remedies y b; fault w: b; fault c: b y; setting v: m z; "
                "setting d: a a; move v - d;")
        self.same(read_rig(text), (
            (2, 2, ((1,), (0, 1)), ((2, 0), (1, 1)), ((0, 1),)),
            (("w", "c"), ("y", "b"), ("v", "d"), ("z", "a", "m"))))

    def test_names_alike_in_unlike_sorts(self):
        text = "signs a b; remedies a b; fault a: b; fault b: a; setting a: b a; setting b: a b; move b - a;"
        named = read_rig(text)
        self.same(named[1], (("a", "b"),) * 4)
        self.same(named[0], (2, 2, ((1,), (0,)), ((1, 0), (0, 1)), ((0, 1),)))

    def test_told_in_any_order(self):
        chance = random.Random(411)
        for _ in range(150):
            named, _ = some_named(chance)
            self.same(read_rig(told_otherwise(chance, named)), named)

    def test_what_is_read_is_a_named_rig(self):
        self.assertIs(is_named(read_rig(print_rig(greatest_named()))), True)
        self.assertIs(is_named(read_rig(with_moves(200))), True)

    def test_signs_that_nothing_shows(self):
        named = read_rig("signs a b c d e f g h i j; remedies r; fault f:; setting h: a;")
        self.same(named[1][3], tuple("abcdefghij"))
        self.same(named[0][3], ((0,),))


class Limits(Strict):

    def test_signs(self):
        rest = "; remedies r; fault f:; setting h: s9;"
        self.same(read_rig("signs " + numbered("s", 10) + rest)[0][3], ((9,),))
        text = "signs " + numbered("s", 11) + rest
        self.refused(TooMany, text.index("s10"), read_rig, text)

    def test_remedies(self):
        rest = "; fault f: r15; setting h: s;"
        self.same(read_rig("signs s; remedies " + numbered("r", 16) + rest)[0][1:3], (16, ((15,),)))
        text = "signs s; remedies " + numbered("r", 17) + rest
        self.refused(TooMany, text.index("r16"), read_rig, text)

    def test_faults(self):
        for many in (1, 23, 24):
            text = with_faults(many) + " setting h:" + " s" * many + ";"
            self.same(read_rig(text)[0][0], many)
        text = with_faults(25) + " setting h:" + " s" * 25 + ";"
        self.refused(TooMany, text.index("f24"), read_rig, text)

    def test_settings(self):
        for many in (1, 39, 40):
            self.same(len(read_rig(with_settings(many))[0][3]), many)
        text = with_settings(41)
        self.refused(TooMany, text.index("g40"), read_rig, text)

    def test_moves(self):
        for many in (0, 199, 200):
            self.same(len(read_rig(with_moves(many))[0][4]), many)
        text = with_moves(201)
        self.refused(TooMany, text.rindex("move") + 5, read_rig, text)

    def test_too_many_ahead_of_twice_and_of_no_name(self):
        self.refused(TooMany, 6 + 30, read_rig, "signs " + numbered("s", 10) + " s0")
        text = "signs s; remedies " + numbered("r", 16) + " r3"
        self.refused(TooMany, len(text) - 2, read_rig, text)
        text = with_faults(24) + " fault f3:"
        self.refused(TooMany, len(text) - 3, read_rig, text)
        text = with_settings(40) + " setting g0:"
        self.refused(TooMany, len(text) - 3, read_rig, text)
        text = with_moves(200) + " move zz - g1;"
        self.refused(TooMany, text.index("zz"), read_rig, text)

    def test_what_cannot_stand_there_ahead_of_too_many(self):
        text = "signs " + numbered("s", 10) + " "
        self.refused(BadText, len(text), read_rig, text + "9a")
        self.refused(BadText, len(text), read_rig, text + "fault")
        self.refused(BadText, len(text), read_rig, text)
        text = with_moves(200) + " move "
        self.refused(BadText, len(text), read_rig, text + "5")
        self.refused(BadText, len(text), read_rig, text)


class Questions(Strict):

    def test_a_name_that_is_given_twice(self):
        for text, place in (
            ("signs no no;", 9), ("signs a b a", 10), ("signs s; remedies r q r;", 22),
            (HEAD + "fault f:; fault f:;", 50), (HEAD + "fault f:; setting h: no; setting h: no;", 67),
        ):
            self.refused(Twice, place, read_rig, text)

    def test_the_remedies_of_a_fault(self):
        self.refused(NoName, 43, read_rig, HEAD + "fault f: tape;")
        self.refused(NoName, 43, read_rig, HEAD + "fault f: no;")
        self.refused(NoName, 48, read_rig, HEAD + "fault f: wire tape wire;")
        self.refused(Twice, 48, read_rig, HEAD + "fault f: wire wire;")
        self.refused(Twice, 53, read_rig, HEAD + "fault f: wire fuse wire tape;")
        # The same remedy may cure another fault, too.
        self.refused(BadText, 67, read_rig, HEAD + "fault f: wire; fault g: wire fuse")

    def test_the_signs_of_a_setting(self):
        text = HEAD + "fault f:; fault g:; setting h: "
        at = len(text)
        for name in ("maybe", "fuse", "h", "f"):
            self.refused(NoName, at, read_rig, text + name + " no;")
            self.refused(NoName, at + 3, read_rig, text + "no " + name + ";")
        self.refused(BadText, at, read_rig, text + ";")
        self.refused(BadText, at + 2, read_rig, text + "no;")
        self.refused(BadText, at + 6, read_rig, text + "no no no;")
        self.refused(BadText, at + 5, read_rig, text + "no no")
        self.same(read_rig(text + "no no;")[0][3], ((0, 0),))

    def test_the_ends_of_a_move(self):
        at = len(LINE)
        for name in ("e", "f", "s", "r"):
            self.refused(NoName, at + 6, read_rig, LINE + " move " + name + " - a;")
            self.refused(NoName, at + 10, read_rig, LINE + " move a - " + name + ";")
        self.refused(NoName, at + 6, read_rig, LINE + " move e - e;")
        for name in "abcd":
            self.refused(Twice, at + 10, read_rig, LINE + " move " + name + " - " + name + ";")
        for again in ("b - c", "c - b"):
            self.refused(Twice, at + 22, read_rig, LINE + " move b - c; move " + again + ";")
            self.refused(Twice, at + 22, read_rig, LINE + " move c - b; move " + again + ";")
        self.refused(BadText, at + 22, read_rig, LINE + " move c - b; move b - 9a;")

    def test_the_order_of_the_entries(self):
        parts = ["signs no yes;", "remedies fuse wire;", "fault f: fuse;", "setting h: no;"]
        self.assertEqual(read_rig(" ".join(parts))[0][0], 1)
        for wrong in itertools.permutations(parts):
            if list(wrong) != parts:
                at = [one == due for one, due in zip(wrong, parts)].index(False)
                text = " ".join(wrong)
                self.refused(BadText, text.index(wrong[at]), read_rig, text)
        text = RIG_TEXT + " setting late: no no;"
        self.refused(BadText, len(RIG_TEXT) + 1, read_rig, text)
        text = HEAD + "fault f:; setting h: no; "
        for late in ("fault g:;", "signs a;", "remedies a;", ";", "h", "bar h - h while f"):
            self.refused(BadText, len(text), read_rig, text + late)

    def test_one_or_more(self):
        for text, place in (
            ("", 0), ("signs;", 5), ("signs s; remedies;", 17), ("signs s; remedies r;", 20),
            ("signs s; remedies r; setting h: s;", 21), ("signs s; remedies r; fault f:;", 30),
            ("signs s; remedies r; fault f:; move h - h;", 31), ("signs s; remedies r; fault:;", 26),
            ("signs s; remedies r; fault f;", 28), ("signs s; remedies r; fault f:; setting: s;", 38),
            ("signs s; remedies r; fault f:; setting h s;", 41), ("signs s, t;", 7),
            ("signs s; remedies r; fault f: r, r;", 31), ("remedies r;", 0), ("signs s;;", 8),
        ):
            self.refused(BadText, place, read_rig, text)

    def test_what_is_no_rig_is_refused_whole(self):
        # What is read is always a rig, so nothing but what is told is raised of it.
        for at in range(len(RIG_TEXT)):
            for sign in ("", ";", "9", "no", " "):
                text = RIG_TEXT[:at] + sign + RIG_TEXT[at + 1:]
                try:
                    named = read_rig(text)
                except (BadText, NoName, TooMany, Twice) as error:
                    self.assertTrue(0 <= error.what <= len(text))
                else:
                    self.assertIs(is_named(named), True)

    def test_a_long_text(self):
        text = print_rig(greatest_named())
        self.assertGreater(len(text), 15000)
        self.same(read_rig(text), greatest_named())
        last = text.rindex("abcdefghij")
        self.refused(NoName, last, read_rig, text[:last] + "zz;")


if __name__ == "__main__":
    unittest.main()
