"""[63] texts: what they are, their words, and the place of the first wrong one."""

import random
import unittest

from tests.helping import NAMED, RIG_TEXT, Strict, some_body, some_named
from waryrig.desk import Desk
from waryrig.errors import BadNumber, BadText, NoMove, NoName, Refused, TooDeep, TooMany, Twice
from waryrig.names import is_name
from waryrig.printprogram import print_program
from waryrig.printrig import print_rig
from waryrig.readentries import print_bar, read_bar
from waryrig.readprogram import read_program
from waryrig.readrig import read_rig
from waryrig.words import words_of

RESERVED = """
    signs remedies fault setting move bar while and or not go cure if else times set clear flag
    put drop check parting stuck trips code open binds undo redo strike none
""".split()
# What can stand somewhere beside names and reserved words, and what can nowhere.
OTHERS = [*";:-{}()", "0", "1", "7", "8", "9", "10", "200", "1" * 1000]
NOWHERE = ["9a", "07", "00", "0a", "x" * 13, "1x", "A", "Z", "_", ".", ",", "!", "~", "=", "*", "/",
           "+", "'", '"', "[", "]", "<", ">", "|", "\\", "^", "`", "?", "@", "#", "$", "&"]
FLAGS_TEXT = "times 2 { set 1; clear 2 }; if flag 3 and not flag 4 {} else { set 5; go far }"
BAR = "bar home - far while f and w"


def readers():
    """Return the readers, each of a text alone, and a text that each of them reads."""
    return (
        (read_rig, RIG_TEXT),
        (lambda text: read_program(NAMED, text), "times 2 { set 0; clear 7 }; cure wire"),
        (lambda text: read_bar(NAMED, text), BAR),
    )


def outcome(read, text):
    """Return what the reader tells of the text: None and a value, or an error and its what."""
    try:
        return None, read(text)
    except Refused as error:
        return type(error), error.what


class Texts(Strict):

    def test_what_is_no_text(self):
        for read, _ in readers():
            for thing in (None, 0, 5, True, (), ("go",), (("a",),), -1):
                self.refused(BadText, -1, read, thing)

    def test_sixty_thousand_signs(self):
        for read, good in readers():
            due = read(good)
            self.same(read(good + " " * (60000 - len(good))), due)
            self.same(read(" " * (60000 - len(good)) + good), due)
            self.refused(BadText, 60000, read, good + " " * (60001 - len(good)))
            self.refused(BadText, 60000, read, " " * 70000 + "A")
            self.refused(BadText, 60000, read, "x" * 60001)
            self.refused(BadText, 60000, read, " " * 60000 + "\n")
            self.refused(BadText, 59999, read, " " * 59999 + "\n ")
            self.refused(BadText, 59999, read, " " * 59999 + "A")

    def test_signs_of_other_codes(self):
        wrong = [chr(code) for code in range(32)] + ["%", "\x7f", "\x80", "\xa0", "\xe9", "\xff"]
        wrong += ["\u0131", "\u0430", "\u0660", "\u2028", "\ufeff", "\U0001d41a", "\ud800"]
        for read, good in readers():
            for sign in wrong:
                for place in (0, 4, len(good) // 2, len(good)):
                    self.refused(BadText, place, read, good[:place] + sign + good[place:])
            for code in range(32, 127):
                if chr(code) != "%":
                    found = outcome(read, chr(code) + " " + good)
                    due = (None, read(good)) if code == 32 else (BadText, 0)
                    self.same(found, due)

    def test_each_sign_that_is_let_waits_for_its_turn(self):
        for code in range(256):
            due = 0 if 32 <= code <= 126 and code != 37 else 3
            for read, _ in readers():
                self.refused(BadText, due, read, "9a " + chr(code))

    def test_a_wrong_sign_ahead_of_wrong_words(self):
        for read, good in readers():
            for text in ("9a A " + good, good + " A", "signs signs", ""):
                self.refused(BadText, len(text), read, text + "%")
                self.refused(BadText, len(text) + 1, read, text + " \n%")
                self.refused(BadText, len(text), read, text + "\x1f")
            self.refused(BadText, 0, read, "%" + good)
            self.refused(BadText, 0, read, "\t" + good)
        self.refused(BadText, 11, read_program, NAMED, "go near; A \x7f")

    def test_a_wrong_sign_ahead_of_a_text_that_is_too_long(self):
        self.refused(BadText, 59998, read_rig, "x" * 59998 + "%" + "x" * 10)
        self.refused(BadText, 60000, read_rig, "x" * 60000 + "%" + "x" * 10)


class WordsOfTexts(Strict):

    def test_words_and_places(self):
        self.same(words_of(""), [("", 0)])
        self.same(words_of("   "), [("", 3)])
        self.same(words_of("go far"), [("go", 0), ("far", 3), ("", 6)])
        self.same(words_of("9a 07--a1b;"), [
            ("9a", 0), ("07", 3), ("-", 5), ("-", 6), ("a1b", 7), (";", 10), ("", 11)])
        self.same(words_of("aB1"), [("a", 0), ("B", 1), ("1", 2), ("", 3)])

    def test_blanks_only_part_words(self):
        for read, good in readers():
            due = read(good)
            for few, many in ((" ", "  "), (" ", "     "), (" ;", ";"), (";", " ; "), (":", " : "),
                              ("-", "  -  "), (" -", "-"), ("- ", "-"), ("; ", ";"), (" {", "{"),
                              ("{ ", "{"), (" }", "}")):
                self.same(read(good.replace(few, many)), due)
            self.same(read("  " + good + "  "), due)

    def test_words_that_stand_side_by_side_are_one(self):
        self.refused(BadText, 0, read_program, NAMED, "gofar")
        self.refused(BadText, 0, read_program, NAMED, "set0")
        self.refused(NoName, 3, read_program, NAMED, "go far1")
        self.refused(BadText, 3, read_program, NAMED, "go 1far")
        self.refused(BadText, 2, read_program, NAMED, "go; far")
        self.refused(BadText, 4, read_program, NAMED, "set 0a")
        self.refused(BadText, 6, read_program, NAMED, "set 0 a")

    def test_where_a_name_has_to_stand(self):
        for word in RESERVED + OTHERS + NOWHERE:
            for text, place in (("go " + word, 3), ("cure " + word + "; go far", 5),
                                ("if " + word, 3)):
                if place == 3 and word in ("not", "flag", "(") and text[:2] == "if":
                    self.refused(BadText, len(text), read_program, NAMED, text)
                else:
                    self.refused(BadText, place, read_program, NAMED, text)
            self.refused(BadText, 4, read_bar, NAMED, "bar " + word + " - far while f")
            self.refused(BadText, 11, read_bar, NAMED, "bar home - " + word + " while f")
            self.refused(BadText, 21, read_bar, NAMED, "bar home - far while " + word)
            self.refused(BadText, 6, read_rig, "signs " + word)
            self.refused(BadText, 19, read_rig, "signs no; remedies " + word)

    def test_where_a_name_stands_that_nothing_has(self):
        for name in ("a", "near", "f", "fuse", "x" * 12, "go1", "fars", "no"):
            self.refused(NoName, 3, read_program, NAMED, "go " + name)
            self.refused(NoName, 4, read_program, NAMED, "go  " + name + " 9a A")

    def test_where_a_figure_word_has_to_stand(self):
        for word in RESERVED + [*";:-{}()"] + NOWHERE + ["a", "fuse"]:
            for ahead in ("set ", "clear ", "times ", "if flag ", "if not flag "):
                self.refused(BadText, len(ahead), read_program, NAMED, ahead + word)
        for word in ("8", "10", "77", "1" * 1000, "200"):
            for ahead in ("set ", "clear ", "if flag "):
                self.refused(BadNumber, len(ahead), read_program, NAMED, ahead + word)

    def test_where_one_of_the_other_words_has_to_stand(self):
        for word in RESERVED + OTHERS + NOWHERE + ["a", "fuse"]:
            if word not in ("go", "cure", "set", "clear", "if", "times"):
                self.refused(BadText, 2, read_program, NAMED, "  " + word)
                self.refused(BadText, 9, read_program, NAMED, " go far; " + word)
            if word != ";":
                self.refused(BadText, 7, read_program, NAMED, "go far " + word)
            if word not in ("{", "and", "or"):
                self.refused(BadText, 7, read_program, NAMED, "if yes " + word)
            if word != "bar":
                self.refused(BadText, 0, read_bar, NAMED, word + BAR[3:])
            if word != "-":
                self.refused(BadText, 9, read_bar, NAMED, "bar home " + word + " far while f")
            if word != "while":
                self.refused(BadText, 15, read_bar, NAMED, "bar home - far " + word + " f")
            if word != "and":
                self.refused(BadText, 23, read_bar, NAMED, "bar home - far while f " + word)
            if word != "signs":
                self.refused(BadText, 0, read_rig, word + RIG_TEXT[5:])

    def test_where_the_text_ends_too_soon(self):
        for read, good in readers():
            words = words_of(good)
            for at, (_, place) in enumerate(words[:-1]):
                for text in (good[:place], good[:place].rstrip(), good[:place] + "  "):
                    found = outcome(read, text)
                    if found[0] is not None:
                        self.same(found, (BadText, len(text)))
                    else:
                        # A body may be nothing, a rig without moves, a bar of one fault.
                        self.assertTrue(at == 0 or words[at][0] in (";", "move", "and", "setting"))

    def test_reserved_words_by_themselves(self):
        self.assertEqual([word for word in RESERVED if is_name(word)], [])
        for word in RESERVED + OTHERS + NOWHERE:
            for read, _ in readers():
                found = outcome(read, word)
                self.assertIs(found[0], BadText)
                self.assertIn(found[1], (0, len(word)))


def other_texts(chance, text):
    """Return texts in which a few words of the text are other ones, fall out or stand twice."""
    words = [word for word, _ in words_of(text)][:-1]
    pool = words + RESERVED + [*";:-{}()"] + ["0", "7", "9", "9a", "A", "zz"]
    found = []
    for _ in range(6):
        row = list(words)
        for _ in range(chance.randint(1, 3)):
            at = chance.randint(0, len(row))
            deed = chance.choice(("other", "out", "twice", "in"))
            if deed == "in" or not row[at:]:
                row.insert(at, chance.choice(pool))
            elif deed == "out":
                del row[at]
            elif deed == "twice":
                row[at:at] = row[max(0, at - chance.randint(1, 5)):at + 1]
            else:
                row[at] = chance.choice(pool)
        found.append(chance.choice((" ", "  ")).join(row))
    return found


class FirstWrongWord(Strict):

    def texts(self, many, seed):
        chance = random.Random(seed)
        for _ in range(many):
            named, book = some_named(chance)
            program = some_body(chance, named[0], 1)
            samples = [(read_rig, print_rig(named)), (readers()[1][0], FLAGS_TEXT)]
            if max([0] + [sign for sign in signs_of(program)]) < len(named[1][3]):
                samples.append((lambda text: read_program(named, text), print_program(named, program)))
            for move, lots in enumerate(book[1]):
                for lot in lots:
                    samples.append((lambda text: read_bar(named, text), print_bar(named, move, lot)))
            for read, text in samples:
                for other in other_texts(chance, text):
                    yield read, other

    def test_what_stands_behind_it_does_not_matter(self):
        kinds = {}
        for read, text in self.texts(150, 402):
            found = outcome(read, text)
            kind, what = found
            if kind is None:
                continue
            kinds[kind] = kinds.get(kind, 0) + 1
            if kind is not TooDeep and what < len(text):
                word = [word for word, place in words_of(text) if place == what][0]
                for tail in ("", " ", " go far", " 9a A", " " + text):
                    self.same(outcome(read, text[:what] + word + tail), found)
            # Ahead of it nothing is wrong: the text could go on with some other word.
            if kind is not TooDeep:
                ahead = outcome(read, text[:what])
                self.assertTrue(ahead[0] is None or ahead == (BadText, what), (text, found))
        for kind in (BadText, NoName, Twice, BadNumber, NoMove):
            self.assertGreater(kinds.get(kind, 0), 2, kind)

    def test_a_row_is_refused_alike(self):
        desk = Desk(NAMED)
        chance = random.Random(403)
        for _ in range(60):
            for text in other_texts(chance, BAR):
                found = outcome(lambda one: read_bar(NAMED, one), text)
                row = desk.row("open " + text[3:]) if text[:4] == "bar " else None
                if row is not None and found[0] is not None:
                    self.same(row, "refused " + found[0].__name__)
                elif row is not None:
                    self.assertIn(row, ("yes", "no"))


def signs_of(thing):
    """Go through the signs for which a program asks."""
    if type(thing) is tuple and len(thing) == 2 and thing[0] == "sign":
        yield thing[1]
    elif type(thing) is tuple:
        for part in thing:
            yield from signs_of(part)


class Places(Strict):

    def test_of_each_kind(self):
        self.refused(TooMany, 26, read_rig, "signs a b c d e f g h i j k;")
        self.refused(Twice, 10, read_rig, "signs a b a;")
        self.refused(NoName, 30, read_rig, "signs a; remedies r; fault f: s;")
        self.refused(NoMove, 11, read_bar, NAMED, "bar home - home while f")
        self.refused(TooDeep, 9, read_program, NAMED, "if (((((((no))))))) {}")
        self.refused(BadNumber, 6, read_program, NAMED, "times 0 {}")


if __name__ == "__main__":
    unittest.main()
