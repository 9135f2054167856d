"""[73] rows of a desk, [74] their answers."""

import itertools
import random
import unittest

from tests.helping import (
    NAMED, NAMES, RIG, Strict, greatest_named, many_lots, some_body, some_named,
)
from waryrig.checker import verdict
from waryrig.closings import open_with
from waryrig.compiler import program_of
from waryrig.desk import Desk
from waryrig.ends import home, parting
from waryrig.errors import BadNumber, NothingToUndo, NoProgram, Refused
from waryrig.papers import stuck
from waryrig.printprogram import print_program
from waryrig.readentries import print_bar
from waryrig.readprogram import read_program
from waryrig.readrow import row_of
from waryrig.solver import code_for
from waryrig.trips import trips

RESERVED = """
    signs remedies fault setting move bar while and or not go cure if else times set clear flag
    put drop check parting stuck trips code open binds undo redo strike none
""".split()
# The sample rig with names.
THREE = (RIG, (("f", "g", "h"), ("r", "s", "t"), ("home", "a", "b"), ("no", "yes")))
# The rig of the example in [56] with names; it is stuck if its move is barred.
PAIR = ((2, 2, ((0,), (1,)), ((0, 0), (0, 1)), ((0, 1),)), NAMES)
# Each of its moves leads to what tells its faults apart.
TWO = ((2, 2, ((0,), (1,)), ((0, 0), (0, 1), (1, 0)), ((0, 1), (0, 2))),
       (("f", "w"), ("fuse", "wire"), ("home", "a", "b"), ("no", "yes")))
# It is stuck without any bar.
NEVER = ((2, 2, ((0,), (1,)), ((0, 0), (0, 0)), ((0, 1),)), NAMES)
QUESTIONS = ("parting", "stuck", "trips", "code", "binds")


def lot_text(named, lot):
    """Return the names of the faults of a lot."""
    return " ".join(named[1][0][x] for x in lot)


def plain_check(named, book, program):
    """Return what is answered of a program."""
    found = verdict(book, program)
    if found is None:
        return "right"
    x, (_, last) = found
    text = named[1][0][x] + " " + last[0]
    if last[0] == "cure":
        text += " " + named[1][1][last[1]]
    if last[0] == "barred":
        text += " " + lot_text(named, last[2])
    return text


def plain_answers(named, desk):
    """Return what is answered to all questions that are one word."""
    book = desk.book()
    lot = stuck(book, home(named[0]))
    code = code_for(book, home(named[0]))
    many = trips(book)
    bars = desk.binds()
    if bars is not None:
        bars = "; ".join(
            print_bar(named, move, bar) + " (" + " ".join(hands) + ")" for move, bar, hands in bars)
    return {
        "parting": " | ".join(lot_text(named, one) for one in parting(book)),
        "stuck": "none" if lot is None else lot_text(named, lot),
        "trips": "none" if many is None else str(many),
        "code": "none" if code is None else print_program(named, program_of(named[0], code)),
        "binds": "none" if bars is None else bars,
    }


def kept(desk, hands=("ann", "bob"), words=("p", "q")):
    """Return what a desk keeps, as far as asking it changes nothing."""
    rig, bars = desk.book()
    said = [[(lot, desk.hands_of(move, lot)) for lot in lots] for move, lots in enumerate(bars)]
    programs = []
    for word in words:
        try:
            programs.append(desk.program(word))
        except NoProgram:
            programs.append(None)
    return rig, said, programs, [desk.opened(hand) for hand in hands]


class Rows(Strict):

    def rows(self, desk, rows):
        """See that the desk answers these rows with these texts."""
        for text, answer in rows:
            found = desk.row(text)
            self.assertIs(type(found), str)
            self.assertEqual(found, answer, text)

    def does_nothing(self, desk, text, answer):
        """See that a row is refused, and changes nothing."""
        ahead = kept(desk)
        self.assertEqual(desk.row(text), answer, text)
        self.same(kept(desk), ahead)


class Examples(Rows):

    def test_the_examples(self):
        self.rows(Desk(NAMED), (
            ("parting", "f | w"), ("code", "cure fuse"),
            ("ann bar far - home while w and f", "ok"), ("binds", "none"),
            ("put p go far; cure wire", "ok"), ("check p", "f barred f w"),
            ("drop q", "refused NoProgram"), ("ann strike home - far while f", "refused NoBar"),
            ("open home - far while f", "no"), ("put", "refused BadText"),
        ))

    def test_a_single_bar_of_two_hands(self):
        self.rows(Desk(PAIR), (
            ("binds", "none"), ("bob bar home - far while f and w", "ok"),
            ("ann bar home - far while w and f", "ok"),
            ("binds", "bar home - far while f and w (ann bob)"),
            ("stuck", "f w"), ("trips", "none"), ("code", "none"), ("parting", "f w"),
            ("bob strike far - home while w and f", "ok"),
            ("binds", "bar home - far while f and w (ann)"), ("ann undo", "ok"), ("binds", "none"),
            ("stuck", "none"), ("trips", "1"), ("parting", "f | w"),
        ))

    def test_by_name(self):
        self.same(Desk(NAMED).row(text="parting"), "f | w")


class Deeds(Rows):

    def test_bars(self):
        desk = Desk(THREE)
        self.rows(desk, (
            ("ann bar home - b while h", "ok"), ("ann bar b-home while h", "refused Twice"),
            ("bob bar b - home while h", "ok"), ("ann strike home - a while h", "refused NoBar"),
            ("ann strike b - home while h", "ok"), ("ann strike home - b while h", "refused NoBar"),
        ))
        self.same(desk.hands_of(1, (2,)), ("bob",))
        self.same(desk.book(), (RIG, ((), ((2,),))))

    def test_undo_and_redo(self):
        desk = Desk(THREE)
        self.rows(desk, (
            ("ann undo", "refused NothingToUndo"), ("ann redo", "refused NothingToRedo"),
            ("ann bar home - a while f", "ok"), ("ann redo", "refused NothingToRedo"),
            ("bob undo", "refused NothingToUndo"), ("ann undo", "ok"),
            ("ann undo", "refused NothingToUndo"), ("ann redo", "ok"),
            ("ann redo", "refused NothingToRedo"),
        ))
        self.same(desk.book(), (RIG, (((0,),), ())))
        desk.undo("ann")
        self.refused(NothingToUndo, "ann", desk.undo, "ann")

    def test_two_hundred_lots(self):
        named = greatest_named()
        desk = Desk(named)
        lots = many_lots(201)
        rows = [print_bar(named, 5, lot)[4:] for lot in lots]
        self.rows(desk, [("ann bar " + row, "ok") for row in rows[:200]])
        self.rows(desk, [("bob bar " + rows[200], "refused TooMany"), ("bob bar " + rows[0], "ok"),
                         ("ann strike " + rows[7], "ok"), ("bob bar " + rows[200], "ok"),
                         ("ann undo", "refused TooMany"), ("bob undo", "ok"), ("ann undo", "ok"),
                         ("bob redo", "refused TooMany")])

    def test_programs(self):
        desk = Desk(THREE)
        self.rows(desk, (
            ("put p", "ok"), ("put q go a; cure r", "ok"), ("drop p", "ok"),
            ("drop p", "refused NoProgram"), ("check p", "refused NoProgram"),
            ("put q if yes { cure t }", "ok"), ("put  p   times 2{set 0;clear 7}", "ok"),
        ))
        self.same(desk.program("q"), read_program(THREE, "if yes { cure t }"))
        self.same(desk.program("p"), (("times", 2, (("set", 0, 1), ("set", 7, 0))),))
        self.rows(desk, [("put w%d" % number, "ok") for number in range(38)])
        self.rows(desk, [("put late go a", "refused TooMany"), ("put w3 go a", "ok"),
                         ("drop w4", "ok"), ("put late go b", "ok"), ("check w4", "refused NoProgram")])

    def test_hands_and_words_of_any_name(self):
        desk = Desk(THREE)
        self.rows(desk, (
            ("f bar home - a while f", "ok"), ("home bar home - a while f", "ok"), ("put f go a", "ok"),
            ("put home go b", "ok"), ("f undo", "ok"), ("check f", "f barred f"),
            ("abcdefghijkl bar home - a while g", "ok"),
        ))
        self.same(desk.hands_of(0, (0,)), ("home",))

    def test_reserved_words_are_no_hands_and_no_words(self):
        desk = Desk(THREE)
        desk.put("p", ())
        desk.say("ann", 0, (0,))
        for word in RESERVED:
            for row in (word + " bar home - a while f", word + " strike home - a while f", word + " undo",
                        word + " redo", "put " + word + " go a", "put " + word, "drop " + word,
                        "check " + word):
                self.does_nothing(desk, row, "refused BadText")
        for word in ("9a", "A", "x" * 13, "5", "07", ";"):
            for row in (word + " undo", word + " bar home - a while f", "put " + word, "drop " + word):
                self.does_nothing(desk, row, "refused BadText")


class Refusals(Rows):

    def desk(self):
        desk = Desk(THREE)
        self.rows(desk, (("put p go a", "ok"), ("ann bar home - a while f", "ok"),
                         ("ann bar home - b while g", "ok"), ("ann undo", "ok"),
                         ("bob bar home - b while h and g", "ok")))
        return desk

    def test_a_word_too_many_does_nothing(self):
        desk = self.desk()
        rows = ("ann undo", "ann redo", "bob undo", "ann bar home - b while h", "put q", "put p go b",
                "ann strike home - a while f", "drop p", "check p", "open home - a while f") + QUESTIONS
        for row in rows:
            for tail in (" 9a", " a", " ;", " 5", " undo", " }", " A", " go"):
                if (row, tail) not in (("put q", " go"), ("put p go b", " ;")):
                    self.does_nothing(desk, row + tail, "refused BadText")
            self.does_nothing(desk, row + " %", "refused BadText")
            self.does_nothing(desk, row + "\n", "refused BadText")
        for row in ("ann bar home - b while h and h", "ann strike home - a while f and f"):
            self.does_nothing(desk, row, "refused Twice")
        self.rows(desk, [("ann redo", "ok")])

    def test_all_words_are_read_ahead_of_any_deed(self):
        desk = self.desk()
        for row, answer in (
            # What is wrong in the text goes ahead of what the desk refuses.
            ("ann bar home - a while f and zz", "NoName"), ("cid strike home - a while f and f", "Twice"),
            ("cid undo now", "BadText"), ("drop q now", "BadText"), ("check q now", "BadText"),
            ("ann bar home - home while f", "NoMove"), ("ann bar a - b while f", "NoMove"),
            ("ann bar zz - b while f", "NoName"), ("ann bar home - zz while f", "NoName"),
            ("put q go zz", "NoName"), ("put q cure zz", "NoName"), ("put q if zz {}", "NoName"),
            ("put q set 8", "BadNumber"), ("put q times 0 {}", "BadNumber"), ("put q if flag 9 {}", "BadNumber"),
            ("put q if (((((((no))))))) {}", "TooDeep"), ("put q if not not not not not not no {}", "TooDeep"),
            ("put q times 1 { times 1 { times 1 { times 1 {} } } }", "TooDeep"),
            ("put q " + "if no { " * 30 + " }" * 30, "TooDeep"),
            ("put q " + "; ".join(["set 0"] * 201), "TooMany"),
            ("put q go a;", "BadText"), ("put q go", "BadText"), ("put q go a }", "BadText"),
        ):
            self.does_nothing(desk, row, "refused " + answer)

    def test_what_is_no_row(self):
        desk = self.desk()
        for row in ("", "   ", "ann", "ann bar", "ann undo undo", "ann put p", "ann check p", "bar",
                    "bar home - a while f", "strike home - a while f", "undo", "redo", "undo ann", "put",
                    "drop", "check", "open", "open home", "open home - a", "open home - a while",
                    "open bar home - a while f", "ann bar bar home - a while f", "ann say home - a while f",
                    "parting ann", "go a", "none", "signs no yes;", "ann: undo", "ann, undo", "ann undo.",
                    "PARTING", "Parting", "ann bar home a while f", "ann bar home - a while f g",
                    "ann bar home - a while f and g and h and f", "put 5 go a", "put p q"):
            self.does_nothing(desk, row, "refused BadText")
        for thing in (None, 0, True, (), ("parting",)):
            self.does_nothing(desk, thing, "refused BadText")

    def test_long_rows(self):
        desk = self.desk()
        self.rows(desk, [("parting" + " " * 59993, desk.row("parting"))])
        self.does_nothing(desk, "parting" + " " * 59994, "refused BadText")
        self.does_nothing(desk, "ann undo" + " " * 60000, "refused BadText")
        text = "put q if" + " not" * 14000
        self.does_nothing(desk, text, "refused BadText")
        self.does_nothing(desk, text + " no {}", "refused TooDeep")

    def test_each_error_by_the_name_of_its_class(self):
        desk = Desk(THREE)
        chance = random.Random(491)
        words = RESERVED + ["ann", "p", "f", "g", "home", "a", "r", "yes", "1", "9", *"-;{}()", "zz"]
        told = set()
        for _ in range(4000):
            begun = chance.choice(("", "ann ", "ann bar home - ", "put p ", "ann bar home - a while f ",
                                   "put p if yes ", "put p set ", "drop ", "open home - "))
            text = begun + " ".join(chance.choice(words) for _ in range(chance.randint(0, 3)))
            found = desk.row(text)
            try:
                row_of(THREE, text)
            except Refused as error:
                self.assertEqual(found, "refused " + type(error).__name__)
                told.add(found)
            else:
                self.assertIs(type(found), str)
        self.assertGreater(len(told), 3)


class Questions(Rows):

    def test_check(self):
        desk = Desk(THREE)
        self.rows(desk, (
            ("ann bar home - b while h", "ok"), ("put p", "ok"), ("check p", "f end"),
            ("put p cure r", "ok"), ("check p", "g cure r"), ("put p cure t", "ok"),
            ("check p", "f cure t"), ("put p go b", "ok"), ("check p", "f barred h"),
            ("put p go home", "ok"), ("check p", "f nomove"), ("put p go a; go b", "ok"),
            ("check p", "f nomove"),
            ("put p times 9 { times 9 { times 9 { go a; go home; go a; go home } } }", "ok"),
            ("check p", "f long"),
            ("put p go a; if yes { cure t } else { go home; go b; if yes { cure s } else { cure r } }", "ok"),
            ("check p", "right"), ("bob bar b - home while f and g", "ok"), ("check p", "f barred f g"),
        ))

    def test_check_names_the_least_fault_that_is_not_cured(self):
        desk = Desk(THREE)
        self.rows(desk, (
            ("put p go a; if yes { cure s } else { cure r }", "ok"), ("check p", "g cure r"),
            ("put p go a; if no { go home; go b; if no { cure r } else { cure s } }", "ok"),
            ("check p", "h end"),
        ))

    def test_none(self):
        self.rows(Desk(THREE), (
            ("stuck", "none"), ("binds", "none"), ("trips", "1"), ("parting", "f | g | h"),
            ("ann bar home - b while h", "ok"), ("trips", "2"), ("binds", "none"),
            ("ann bar home - a while f", "ok"), ("trips", "none"), ("code", "none"),
            ("stuck", "f g h"), ("parting", "f g h"),
            ("binds", "bar home - a while f (ann)"), ("bob bar b - home while g", "ok"),
            ("binds", "bar home - b while g (bob)"),
        ))

    def test_several_bars_that_bind(self):
        self.rows(Desk(TWO), (
            ("ann bar home - a while f", "ok"), ("binds", "none"), ("bob bar home - b while f and w", "ok"),
            ("ann bar home - b while f and w", "ok"),
            ("binds", "bar home - a while f (ann); bar home - b while f and w (ann bob)"),
            ("cid bar home - a while f", "ok"), ("bob bar home - a while w", "ok"),
            ("binds", "bar home - a while w (bob); bar home - b while f and w (ann bob)"),
        ))

    def test_what_binds_nothing(self):
        self.rows(Desk(NEVER), (
            ("binds", ""), ("stuck", "f w"), ("ann bar home - far while f", "ok"), ("binds", ""),
        ))

    def test_code(self):
        desk = Desk(THREE)
        self.rows(desk, (
            ("ann bar home - b while h", "ok"),
            ("code", "go a; if no { go home; go b; if no { cure r } else { cure s } } else { cure t }"),
            ("put p " + desk.row("code"), "ok"), ("check p", "right"),
        ))

    def test_open(self):
        self.rows(Desk(THREE), (
            ("ann bar home - b while h", "ok"), ("open home - b while f and g", "yes"),
            ("open b - home while g and f", "yes"), ("open home - b while h", "no"),
            ("open home - b while f and h and g", "no"), ("open home - a while h", "yes"),
            ("open home - a while h and f and g", "yes"), ("open home - zz while f", "refused NoName"),
            ("open a - b while f", "refused NoMove"), ("open home - a while f and f", "refused Twice"),
        ))

    def test_asking_changes_nothing(self):
        desk = Desk(THREE)
        self.rows(desk, (("ann bar home - b while h", "ok"), ("put p cure r", "ok"), ("ann undo", "ok")))
        ahead = kept(desk)
        for row in QUESTIONS + ("check p", "open home - a while f"):
            self.assertNotIn("refused", desk.row(row))
            self.same(kept(desk), ahead)
        self.rows(desk, [("ann redo", "ok")])

    def test_of_any_desk(self):
        chance = random.Random(492)
        told = {}
        for _ in range(200):
            named, book = some_named(chance, 0.45)
            desk = Desk(named)
            for move, lots in enumerate(book[1]):
                for lot in lots:
                    for hand in chance.choice((("ann",), ("bob",), ("bob", "ann"))):
                        self.rows(desk, [(hand + " " + print_bar(named, move, lot), "ok")])
            self.same(desk.book(), book)
            for row, answer in plain_answers(named, desk).items():
                self.rows(desk, [(row, answer)])
                told.setdefault(row, set()).add(answer == "none")
            for move, lots in enumerate(book[1]):
                for lot in lots + ((0,),):
                    due = "yes" if open_with(book, move, lot) else "no"
                    self.rows(desk, [("open " + print_bar(named, move, lot)[4:], due)])
            for _ in range(5):
                program = some_body(chance, named[0], 1)
                try:
                    text = print_program(named, program)
                except BadNumber:
                    continue
                self.rows(desk, [("put p " + text, "ok"), ("check p", plain_check(named, book, program))])
                self.same(desk.program("p"), program)
            code = desk.row("code")
            if code != "none":
                self.rows(desk, [("put p " + code, "ok"), ("check p", "right")])
        self.assertEqual([len(told[row]) for row in QUESTIONS], [1, 2, 2, 2, 2])

    def test_signs_without_names_may_be_asked_for(self):
        desk = Desk(NAMED)
        desk.put("p", (("if", ("sign", 9), (), (("cure", 0),)),))
        self.rows(desk, [("check p", "right")])

    def test_the_greatest_rig(self):
        named = greatest_named()
        desk = Desk(named)
        pairs = itertools.islice(itertools.combinations(range(24), 2), 100)
        for move, lot in enumerate(pairs):
            desk.say("ann", move, lot)
        for row, answer in plain_answers(named, desk).items():
            self.rows(desk, [(row, answer)])


if __name__ == "__main__":
    unittest.main()
