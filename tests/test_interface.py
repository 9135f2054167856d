"""[0.1] and the interface: each name is there, in its file, with its arguments."""

import importlib
import inspect
import unittest

from tests.helping import BOOK, CODE, NAMED, PROGRAM, RIG, RIG_TEXT, Strict, random_books
from waryrig.binding import binding
from waryrig.books import made_book
from waryrig.chains import chain
from waryrig.checker import right, same_program, verdict
from waryrig.closings import closing, open_walk, open_walk_right, open_with
from waryrig.codes import code_right, made_code, run_code
from waryrig.compiler import code_of, program_of
from waryrig.dark import dark_paper, darkened, run_dark, strength
from waryrig.desk import Desk
from waryrig.ends import end, end_from, home, made_start, parting
from waryrig.erring import alive, run_erring
from waryrig.exchanges import exchanged, exchanges
from waryrig.free import barring, free, with_bar, without_bar
from waryrig.journal import left
from waryrig.kernel import chain_right, stuck_right
from waryrig.lost import bears, loss_paper, lost_at, run_lost, safe_way
from waryrig.live import Live
from waryrig.lots import agreeing, all_faults, done, one_sign, parted, remedies_for
from waryrig.machine import run_cut
from waryrig.names import is_name, is_named, made_named
from waryrig.orders import count_orders, first_order, nth_order, number_of, order_right
from waryrig.papers import stuck
from waryrig.printprogram import print_program
from waryrig.printrig import print_rig
from waryrig.programs import is_program, made_program
from waryrig.questions import always_out, can_make, must, out_first
from waryrig.readentries import print_bar, read_bar
from waryrig.readprogram import read_program
from waryrig.readrig import read_rig
from waryrig.regions import region, way
from waryrig.rigs import made_rig, neighbours
from waryrig.risks import least_risk, made_grades, waived
from waryrig.rounds import round_walk
from waryrig.running import run
from waryrig.solver import code_for, solvable
from waryrig.table import alike, fullest, implies, table, telling
from waryrig.trips import course, run_trips, trips
from waryrig.walks import first_barred, made_walk, safe, seen

INTERFACE = """
    rigs made_rig thing
    rigs is_rig thing
    rigs neighbours rig g
    lots all_faults rig
    lots remedies_for rig lot
    lots done rig lot
    lots agreeing rig lot x settings
    lots one_sign rig lot g
    lots parted rig lot g
    books made_book thing
    books is_book thing
    free free book lot move
    free barring book lot move
    free with_bar book move lot
    free without_bar book move lot
    regions region book lot g
    regions way book lot g h
    walks made_walk rig thing
    walks is_walk rig thing
    walks seen rig x walk
    walks first_barred book x walk
    walks safe book x walk
    ends home rig
    ends made_start rig thing
    ends end_from book start x
    ends end book x
    ends parting book
    codes made_code rig thing
    codes is_code rig thing
    codes run_code book code start x
    codes code_right book code start
    solver code_for book start
    solver solvable book
    papers stuck book start
    kernel stuck_right book start lot
    kernel chain_right book chain
    kernel loss_right book paper
    kernel dark_right book r paper
    rounds round_walk book lot
    trips course book x
    trips trips book
    trips run_trips book x
    chains chain book
    programs made_program rig thing
    programs is_program rig thing
    running run book program x
    checker verdict book program
    checker right book program
    checker same_program book one two
    compiler code_of book program
    compiler program_of rig code
    journal left rig lot journal
    machine run_cut book code x cuts
    lost lost_at book g
    lost bears book
    lost safe_way book x g
    lost loss_paper book
    lost run_lost book code x cuts
    erring alive rig e looks
    erring run_erring book e x lies
    dark darkened book settings
    dark dark_paper book r
    dark strength book
    dark run_dark book settings x
    closings closing book lot
    closings open_with book move lot
    closings open_walk book move lot
    closings open_walk_right book move lot walk
    table table book
    table fullest book
    table implies one two
    table alike one two
    table telling one two
    questions can_make book x move
    questions always_out book x move y
    questions must book x move
    questions out_first book x y z
    risks made_grades book thing
    risks waived book grades g
    risks least_risk book grades
    binding binding book
    orders order_right book x order
    orders first_order book x
    orders count_orders book x
    orders nth_order book x k
    orders number_of book x order
    exchanges exchanged order i
    exchanges exchanges book x one two
    names is_name thing
    names is_named thing
    names made_named thing
    readrig read_rig text
    printrig print_rig named
    readprogram read_program named text
    printprogram print_program named program
    readentries read_bar named text
    readentries print_bar named move lot
""".strip().split("\n")
# The classes: what each is made from, and its methods with what they are called with.
CLASSES = """
    live Live book
    live Live.at
    live Live.knowledge
    live Live.sees sign
    live Live.go g
    live Live.moves
    live Live.remedies
    live Live.home_free
    live Live.advice
    live Live.log
    live Live.rebook book
    desk Desk named
    desk Desk.say hand move lot
    desk Desk.strike hand move lot
    desk Desk.undo hand
    desk Desk.redo hand
    desk Desk.put word program
    desk Desk.drop word
    desk Desk.book
    desk Desk.hands_of move lot
    desk Desk.binds
    desk Desk.opened hand
    desk Desk.program word
    desk Desk.row text
""".strip().split("\n")


def plain(thing):
    """Tell whether a value is built from tuples, texts, numbers, bools and None alone."""
    if type(thing) is tuple:
        return all(plain(part) for part in thing)
    return thing is None or type(thing) in (int, bool, str)


class Interface(Strict):

    def test_names_and_arguments(self):
        for line in INTERFACE:
            file, name, *arguments = line.split()
            with self.subTest(line):
                call = getattr(importlib.import_module("waryrig." + file), name)
                self.assertTrue(inspect.isfunction(call))
                self.assertEqual(call.__module__, "waryrig." + file)
                told = inspect.signature(call).parameters.values()
                self.assertEqual([one.name for one in told], arguments)
                self.plainly_told(told)

    def test_classes_and_their_methods(self):
        for line in CLASSES:
            file, name, *arguments = line.split()
            with self.subTest(line):
                name, _, method = name.partition(".")
                kind = getattr(importlib.import_module("waryrig." + file), name)
                self.assertTrue(inspect.isclass(kind))
                self.assertEqual(kind.__module__, "waryrig." + file)
                # It stands in the class itself.
                call = vars(kind)[method or "__init__"]
                self.assertTrue(inspect.isfunction(call))
                told = list(inspect.signature(call).parameters.values())[1:]
                self.assertEqual([one.name for one in told], arguments)
                self.plainly_told(told)

    def plainly_told(self, told):
        """See that all can be given by position and by name, and have to be."""
        for one in told:
            self.assertIs(one.kind, inspect.Parameter.POSITIONAL_OR_KEYWORD)
            self.assertIs(one.default, inspect.Parameter.empty)


class Returned(Strict):

    def test_by_position_or_by_name(self):
        calls = (
            (agreeing, (RIG, (0, 1, 2), 1, (2,)), ("rig", "lot", "x", "settings")),
            (parted, (RIG, (0, 2), 1), ("rig", "lot", "g")),
            (with_bar, (BOOK, 0, (1, 2)), ("book", "move", "lot")),
            (barring, (BOOK, (0, 2), 1), ("book", "lot", "move")),
            (way, (BOOK, (0, 1), 1, 2), ("book", "lot", "g", "h")),
            (first_barred, (BOOK, 2, (0, 1, 0, 2)), ("book", "x", "walk")),
            (end_from, (BOOK, ((0, 1), 0), 1), ("book", "start", "x")),
            (run_code, (BOOK, CODE, ((0, 1), 0), 1), ("book", "code", "start", "x")),
            (course, (BOOK, 1), ("book", "x")),
            (run_trips, (BOOK, 1), ("book", "x")),
            (run, (BOOK, PROGRAM, 2), ("book", "program", "x")),
            (same_program, (BOOK, PROGRAM, ()), ("book", "one", "two")),
            (program_of, (RIG, CODE), ("rig", "code")),
            (left, (RIG, (0, 1, 2), ((1, 0),)), ("rig", "lot", "journal")),
            (run_cut, (BOOK, CODE, 0, (3,)), ("book", "code", "x", "cuts")),
            (safe_way, (BOOK, 0, 2), ("book", "x", "g")),
            (run_lost, (BOOK, CODE, 0, (3,)), ("book", "code", "x", "cuts")),
            (alive, (RIG, 1, ((1, 1),) * 2), ("rig", "e", "looks")),
            (run_erring, (BOOK, 2, 1, ((3, 1),)), ("book", "e", "x", "lies")),
            (dark_paper, (BOOK, 1), ("book", "r")),
            (run_dark, (BOOK, (2,), 0), ("book", "settings", "x")),
            (open_walk, (BOOK, 1, (0, 1)), ("book", "move", "lot")),
            (open_walk_right, (BOOK, 1, (0, 1), (0, 1, 0)), ("book", "move", "lot", "walk")),
            (telling, ((RIG, ((), ())), BOOK), ("one", "two")),
            (can_make, (BOOK, 1, 0), ("book", "x", "move")),
            (always_out, (BOOK, 0, 1, 2), ("book", "x", "move", "y")),
            (out_first, (BOOK, 0, 2, 1), ("book", "x", "y", "z")),
            (waived, (BOOK, ((), (3,)), 2), ("book", "grades", "g")),
            (nth_order, (BOOK, 1, 0), ("book", "x", "k")),
            (number_of, (BOOK, 1, (0, 1, 2)), ("book", "x", "order")),
            (exchanged, ((0, 1, 2), 1), ("order", "i")),
            (exchanges, (BOOK, 0, (0, 1, 2), (0, 1, 2)), ("book", "x", "one", "two")),
            (read_program, (NAMED, "go far"), ("named", "text")),
            (print_program, (NAMED, (("go", 1),)), ("named", "program")),
            (read_bar, (NAMED, "bar home - far while f"), ("named", "text")),
            (print_bar, (NAMED, 0, (1,)), ("named", "move", "lot")),
        )
        for call, given, names in calls:
            self.same(call(**dict(zip(names, given))), call(*given))

    def test_several_things_are_a_tuple(self):
        self.assertIs(made_named(NAMED), NAMED)
        for thing in (read_rig(RIG_TEXT), read_program(NAMED, "if yes { set 1 }"),
                      read_bar(NAMED, "bar home - far while f and w")):
            self.assertTrue(plain(thing))
        live = Live(BOOK)
        live.sees(0)
        desk = Desk(NAMED)
        desk.say("ann", 0, (0, 1))
        for thing in (live.knowledge(), live.moves(), live.remedies(), live.advice(), live.log(),
                      desk.book(), desk.hands_of(0, (0, 1)), desk.opened("ann")):
            self.assertIs(type(thing), tuple)
            self.assertTrue(plain(thing))
        for book in random_books(20, 11):
            rig, bars = book
            lot = all_faults(rig)
            found = [
                made_rig(rig), made_book(book), neighbours(rig, 0), lot, remedies_for(rig, lot),
                agreeing(rig, lot, 0, (0,)), parted(rig, lot, 0), region(book, lot, 0),
                way(book, lot, 0, 0),
            ]
            for move, lots in enumerate(bars):
                found += [without_bar(book, move, one) for one in lots]
                if (0,) not in lots:
                    found.append(with_bar(book, move, (0,)))
            found += [
                home(rig), made_start(rig, home(rig)), made_walk(rig, (0,)), seen(rig, 0, (0,)),
                end(book, 0), end_from(book, home(rig), 0), parting(book), round_walk(book, lot),
                code_for(book, home(rig)) or stuck(book, home(rig)),
                run_code(book, made_code(rig, (("cure", (0,), 0),)), home(rig), 0),
            ]
            found += [first_barred(book, 0, (0, h)) or () for h, _ in neighbours(rig, 0)]
            program = made_program(rig, (("times", 2, (("set", 0, 1),)), ("cure", 0)))
            found += [
                course(book, 0), chain(book) or (), run_trips(book, 0), run(book, program, 0),
                verdict(book, program) or code_of(book, program), program_of(rig, (("cure", (0,), 0),)),
            ]
            found += [
                left(rig, lot, ((0, 1),)), lost_at(book, 0), safe_way(book, 0, 0),
                loss_paper(book) or (), alive(rig, 1, ((0, 1),)), darkened(book, (0,)),
                dark_paper(book, 1) or (), run_dark(book, (0,), 0), closing(book, (0,)),
                table(book), fullest(book), telling((rig, ((),) * len(bars)), book) or (),
            ]
            found += [open_walk(book, move, (0,)) or () for move in range(len(bars))]
            grades = tuple((5,) * len(lots) for lots in bars)
            order = first_order(book, 0)
            found += [
                made_grades(book, grades), waived(book, grades, 4), binding(book) or (), order,
                nth_order(book, 0, 0), exchanges(book, 0, order, order), exchanged((0, 1), 0),
            ]
            if solvable(book):
                code = code_for(book, home(rig))
                found += [run_cut(book, code, 0, (1,)), run_lost(book, code, 0, (1,)),
                          run_erring(book, 1, 0, ((0, 9),))]
            for thing in found:
                self.assertIs(type(thing), tuple)
                self.assertTrue(plain(thing))

    def test_texts_are_texts(self):
        for thing in (print_rig(NAMED), print_program(NAMED, (("go", 1),)), print_bar(NAMED, 0, (0,)),
                      Desk(NAMED).row("binds"), Desk(NAMED).row(None)):
            self.assertIs(type(thing), str)

    def test_nothing_is_returned_of_which_nothing_is_said(self):
        live = Live(BOOK)
        for found in (live.sees(0), live.go(1), live.rebook(BOOK)):
            self.assertIsNone(found)
        desk = Desk(NAMED)
        for found in (desk.say("ann", 0, (0,)), desk.undo("ann"), desk.redo("ann"),
                      desk.strike("ann", 0, (0,)), desk.put("p", ()), desk.drop("p")):
            self.assertIsNone(found)

    def test_yes_and_no_are_bools(self):
        for book in random_books(20, 12):
            lot = all_faults(book[0])
            self.assertIs(type(done(book[0], lot)), bool)
            self.assertIs(type(one_sign(book[0], lot, 0)), bool)
            self.assertIs(type(solvable(book)), bool)
            self.assertIs(type(safe(book, 0, (0,))), bool)
            self.assertIs(type(code_right(book, (("cure", (), 0),), home(book[0]))), bool)
            self.assertIs(type(stuck_right(book, home(book[0]), lot)), bool)
            self.assertIs(type(chain_right(book, (lot,))), bool)
            self.assertIs(type(is_program(book[0], ())), bool)
            self.assertIs(type(right(book, (("cure", 0),))), bool)
            self.assertIs(type(same_program(book, (), (("cure", 0),))), bool)
            self.assertIs(type(Live(book).home_free()), bool)
            self.assertIs(type(is_name("a")), bool)
            self.assertIs(type(is_named((book[0], ()))), bool)
            self.assertNotIsInstance(trips(book), bool)
            self.assertIs(type(bears(book)), bool)
            self.assertIs(type(strength(book)), int)
            self.assertIs(type(implies(book, book)), bool)
            self.assertIs(type(alike(book, book)), bool)
            self.assertIs(type(order_right(book, 0, (0,))), bool)
            self.assertIs(type(count_orders(book, 0)), int)
            self.assertIs(type(number_of(book, 0, first_order(book, 0))), int)
            grades = tuple((5,) * len(lots) for lots in book[1])
            self.assertNotIsInstance(least_risk(book, grades), bool)
            if len(lot) > 2:
                self.assertIs(type(out_first(book, 0, 1, 2)), bool)
            for move in range(len(book[1])):
                self.assertIs(type(can_make(book, 0, move)), bool)
                self.assertIs(type(must(book, 0, move)), bool)
                if len(lot) > 1:
                    self.assertIs(type(always_out(book, 0, move, 1)), bool)
                self.assertIs(type(free(book, lot, move)), bool)
                self.assertIs(type(open_with(book, move, lot)), bool)
                self.assertIs(type(open_walk_right(book, move, lot, (0,))), bool)


if __name__ == "__main__":
    unittest.main()
