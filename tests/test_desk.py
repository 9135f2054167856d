"""[77] the desk, [78] programs at it, [79] what binds."""

import itertools
import random
import unittest

from tests.helping import (
    NAMED, NAMES, NO_TUPLES, NOT_BELOW_TWO, PROGRAM, RIG, Strict, WRONG_NAMED, greatest_named,
    many_lots, replaced, some_named,
)
from waryrig.binding import binding
from waryrig.books import is_book
from waryrig.desk import Desk
from waryrig.ends import parting
from waryrig.errors import (
    BadLot, BadMove, BadName, BadProgram, NoBar, NoProgram, NothingToRedo, NothingToUndo,
    Refused, TooMany, Twice,
)
from waryrig.solver import solvable

# The sample rig with names.
THREE = (RIG, (("f", "g", "h"), ("r", "s", "t"), ("home", "a", "b"), ("no", "yes")))
# What is no name.
NO_NAMES = ("", "A", "9", "9a", "a b", "a-b", "abcdefghijklm", "bar", "undo", "none", "a%", None, 0,
            True, (), ("ann",), ("a",))
NO_BARS = NO_TUPLES + ((), (3,), (-1,), (True,), (1, 0), (0, 0), ("f",), ((0,),), (None,), (0, 1, 2, 3))


def state(desk):
    """Return all that a desk of the sample rig can be asked, but for undo and redo."""
    lots = [lot for many in (1, 2, 3) for lot in itertools.combinations(range(3), many)]
    return (desk.book(), [[desk.hands_of(move, lot) for lot in lots] for move in range(2)])


def all_back(desk, hand):
    """Undo all of a hand, and return how many deeds that were."""
    many = 0
    while True:
        try:
            desk.undo(hand)
        except NothingToUndo:
            return many
        many += 1


class Bars(Strict):

    def test_nothing_at_first(self):
        desk = Desk(THREE)
        self.same(desk.book(), (RIG, ((), ())))
        self.same(desk.hands_of(0, (0,)), ())
        self.same(Desk(named=NAMED).book(), (NAMED[0], ((),)))

    def test_say_and_strike(self):
        desk = Desk(THREE)
        self.same(desk.say("ann", 1, (2,)), None)
        self.same(desk.book(), (RIG, ((), ((2,),))))
        self.same(desk.say(hand="ann", move=1, lot=(0, 1, 2)), None)
        desk.say("ann", 1, (1, 2))
        desk.say("ann", 0, (2,))
        self.same(desk.book(), (RIG, (((2,),), ((0, 1, 2), (1, 2), (2,)))))
        self.same(desk.strike(hand="ann", move=1, lot=(1, 2)), None)
        self.same(desk.book(), (RIG, (((2,),), ((0, 1, 2), (2,)))))
        desk.strike("ann", 0, (2,))
        self.same(desk.book(), (RIG, ((), ((0, 1, 2), (2,)))))
        desk.say("ann", 0, (2,))
        self.same(desk.hands_of(0, (2,)), ("ann",))

    def test_one_bar_of_two_hands(self):
        desk = Desk(THREE)
        desk.say("bob", 1, (0, 2))
        desk.say("ann", 1, (0, 2))
        self.same(desk.book(), (RIG, ((), ((0, 2),))))
        self.same(desk.hands_of(1, (0, 2)), ("ann", "bob"))
        desk.strike("bob", 1, (0, 2))
        self.same(desk.book(), (RIG, ((), ((0, 2),))))
        self.same(desk.hands_of(move=1, lot=(0, 2)), ("ann",))
        self.refused(NoBar, 0, desk.strike, "bob", 1, (0, 2))
        desk.strike("ann", 1, (0, 2))
        self.same(desk.book(), (RIG, ((), ())))
        self.same(desk.hands_of(1, (0, 2)), ())

    def test_hands_are_told_as_texts_ascending(self):
        desk = Desk(THREE)
        for hand in ("b", "ab", "a", "b1", "aa", "z", "b0"):
            desk.say(hand, 0, (1,))
        self.same(desk.hands_of(0, (1,)), ("a", "aa", "ab", "b", "b0", "b1", "z"))
        desk.strike("aa", 0, (1,))
        self.same(desk.hands_of(0, (1,)), ("a", "ab", "b", "b0", "b1", "z"))

    def test_twice_and_no_bar(self):
        desk = Desk(THREE)
        desk.say("ann", 0, (1,))
        self.refused(Twice, 0, desk.say, "ann", 0, (1,))
        for hand, move, lot in (("bob", 0, (1,)), ("ann", 1, (1,)), ("ann", 0, (2,)), ("ann", 0, (0, 1))):
            self.refused(NoBar, 0, desk.strike, hand, move, lot)
        self.same(desk.book(), (RIG, (((1,),), ())))
        desk.strike("ann", 0, (1,))
        self.refused(NoBar, 0, desk.strike, "ann", 0, (1,))

    def test_refusals_in_order(self):
        desk = Desk(THREE)
        desk.say("ann", 0, (1,))
        for call in (desk.say, desk.strike):
            for hand in NO_NAMES:
                self.refused(BadName, hand, call, hand, None, None)
            for move in NOT_BELOW_TWO:
                self.refused(BadMove, move, call, "ann", move, None)
            for lot in NO_BARS:
                self.refused(BadLot, -1, call, "ann", 0, lot)
        for move in NOT_BELOW_TWO:
            self.refused(BadMove, move, desk.hands_of, move, None)
        for lot in NO_BARS:
            self.refused(BadLot, -1, desk.hands_of, 0, lot)
        self.same(desk.book(), (RIG, (((1,),), ())))

    def test_books_are_books(self):
        chance = random.Random(481)
        for _ in range(60):
            named, book = some_named(chance)
            desk = Desk(named)
            for move, lots in enumerate(book[1]):
                for lot in chance.sample(lots, len(lots)):
                    desk.say(chance.choice(("ann", "bob")), move, lot)
            self.same(desk.book(), book)
            self.assertIs(is_book(desk.book()), True)


class TwoHundred(Strict):

    def full(self):
        """Return a desk with 200 lots at move 7, half of them of ann and half of bob."""
        desk = Desk(greatest_named())
        for number, lot in enumerate(many_lots(202)[:200]):
            desk.say(("ann", "bob")[number % 2], 7, lot)
        return desk

    def test_more_are_refused(self):
        desk = self.full()
        lots = many_lots(202)
        book = desk.book()
        for hand in ("ann", "cid"):
            self.refused(TooMany, 201, desk.say, hand, 7, lots[200])
        self.same(desk.book(), book)
        desk.say("ann", 8, lots[200])
        # A lot that stands there is not one more.
        desk.say("cid", 7, lots[0])
        self.refused(Twice, 0, desk.say, "cid", 7, lots[0])
        desk.strike("ann", 7, lots[0])
        self.refused(TooMany, 201, desk.say, "ann", 7, lots[200])
        desk.strike("cid", 7, lots[0])
        desk.say("ann", 7, lots[200])
        self.refused(TooMany, 201, desk.say, "cid", 7, lots[0])
        self.assertIs(is_book(desk.book()), True)

    def test_undo_of_a_strike(self):
        desk = self.full()
        lots = many_lots(202)
        desk.strike("ann", 7, lots[0])
        desk.say("cid", 7, lots[200])
        book = desk.book()
        for _ in range(2):
            self.refused(TooMany, 201, desk.undo, "ann")
            self.same(desk.book(), book)
        self.refused(NothingToRedo, "ann", desk.redo, "ann")
        desk.undo("cid")
        desk.undo("ann")
        self.same(desk.hands_of(7, lots[0]), ("ann",))
        self.refused(TooMany, 201, desk.redo, "cid")
        desk.redo("ann")
        desk.redo("cid")
        self.same(desk.book(), book)

    def test_redo_of_a_say(self):
        desk = self.full()
        lots = many_lots(202)
        desk.undo("bob")
        desk.say("ann", 7, lots[201])
        book = desk.book()
        for _ in range(2):
            self.refused(TooMany, 201, desk.redo, "bob")
            self.same(desk.book(), book)
        desk.undo("ann")
        desk.redo("bob")
        self.refused(TooMany, 201, desk.redo, "ann")

    def test_undo_of_a_strike_where_the_lot_stands_by_another_hand(self):
        desk = self.full()
        lots = many_lots(202)
        desk.say("cid", 7, lots[0])
        desk.strike("ann", 7, lots[0])
        desk.undo("ann")
        self.same(desk.hands_of(7, lots[0]), ("ann", "cid"))


class UndoAndRedo(Strict):

    def test_one_hand(self):
        desk = Desk(THREE)
        desk.say("ann", 0, (0,))
        desk.say("ann", 1, (1,))
        desk.strike("ann", 0, (0,))
        books = [(RIG, ((), ())), (RIG, (((0,),), ())), (RIG, (((0,),), ((1,),))), (RIG, ((), ((1,),)))]
        for book in books[2::-1]:
            self.same(desk.undo("ann"), None)
            self.same(desk.book(), book)
        self.refused(NothingToUndo, "ann", desk.undo, "ann")
        for book in books[1:]:
            self.same(desk.redo("ann"), None)
            self.same(desk.book(), book)
        self.refused(NothingToRedo, "ann", desk.redo, "ann")
        desk.undo(hand="ann")
        desk.redo(hand="ann")
        self.same(desk.book(), books[3])

    def test_a_hand_takes_back_its_own_deeds_alone(self):
        desk = Desk(THREE)
        desk.say("ann", 0, (0,))
        desk.say("bob", 0, (1,))
        desk.say("ann", 0, (2,))
        desk.say("bob", 0, (0,))
        desk.undo("ann")
        self.same(desk.book(), (RIG, (((0,), (1,)), ())))
        desk.undo("ann")
        self.same(desk.hands_of(0, (0,)), ("bob",))
        self.refused(NothingToUndo, "ann", desk.undo, "ann")
        desk.undo("bob")
        self.same(desk.book(), (RIG, (((1,),), ())))
        desk.redo("ann")
        self.same(desk.hands_of(0, (0,)), ("ann",))
        desk.redo("bob")
        desk.redo("ann")
        self.same(desk.book(), (RIG, (((0,), (1,), (2,)), ())))
        self.same(desk.hands_of(0, (0,)), ("ann", "bob"))

    def test_a_new_deed_forgets_what_this_hand_could_redo(self):
        for deed in (lambda desk: desk.say("ann", 1, (2,)), lambda desk: desk.strike("ann", 0, (0,))):
            desk = Desk(THREE)
            desk.say("ann", 0, (0,))
            desk.say("ann", 0, (1,))
            desk.undo("ann")
            deed(desk)
            self.refused(NothingToRedo, "ann", desk.redo, "ann")
            self.assertEqual(all_back(desk, "ann"), 2)
            self.same(desk.book(), (RIG, ((), ())))

    def test_what_another_hand_does_forgets_nothing(self):
        desk = Desk(THREE)
        desk.say("ann", 0, (0,))
        desk.say("bob", 0, (2,))
        desk.undo("ann")
        desk.undo("bob")
        desk.say("cid", 0, (1,))
        desk.say("bob", 1, (1,))
        self.refused(NothingToRedo, "bob", desk.redo, "bob")
        desk.redo("ann")
        self.same(desk.book(), (RIG, (((0,), (1,)), ((1,),))))

    def test_what_is_refused_forgets_nothing(self):
        desk = Desk(THREE)
        desk.say("ann", 0, (0,))
        desk.say("ann", 0, (1,))
        desk.undo("ann")
        self.refused(Twice, 0, desk.say, "ann", 0, (0,))
        self.refused(NoBar, 0, desk.strike, "ann", 0, (1,))
        self.refused(BadLot, -1, desk.say, "ann", 0, ())
        desk.redo("ann")
        self.same(desk.book(), (RIG, (((0,), (1,)), ())))
        self.assertEqual(all_back(desk, "ann"), 2)

    def test_programs_are_nothing_to_undo(self):
        desk = Desk(THREE)
        desk.put("ann", ())
        self.refused(NothingToUndo, "ann", desk.undo, "ann")
        desk.say("ann", 0, (0,))
        desk.undo("ann")
        desk.put("ann", (("go", 1),))
        desk.drop("ann")
        desk.redo("ann")

    def test_refusals_in_order(self):
        desk = Desk(THREE)
        for hand in NO_NAMES:
            self.refused(BadName, hand, desk.undo, hand)
            self.refused(BadName, hand, desk.redo, hand)
        for hand in ("ann", "bob"):
            self.refused(NothingToUndo, hand, desk.undo, hand)
            self.refused(NothingToRedo, hand, desk.redo, hand)
        desk.say("ann", 0, (0,))
        self.refused(NothingToUndo, "bob", desk.undo, "bob")
        self.refused(NothingToRedo, "ann", desk.redo, "ann")

    def test_a_hundred_and_a_hundred_and_one(self):
        for many in (99, 100, 101, 130):
            desk = Desk(greatest_named())
            lots = many_lots(many)
            for lot in lots:
                desk.say("ann", 0, lot)
            self.assertEqual(all_back(desk, "ann"), min(many, 100))
            # The elder ones stand for good.
            self.same(desk.book()[1][0], lots[:max(0, many - 100)] and tuple(sorted(lots[:many - 100])))
            for _ in range(min(many, 100)):
                desk.redo("ann")
            self.refused(NothingToRedo, "ann", desk.redo, "ann")
            self.same(desk.book()[1][0], tuple(sorted(lots)))

    def test_strikes_count_too(self):
        desk = Desk(THREE)
        for _ in range(60):
            desk.say("ann", 0, (0,))
            desk.strike("ann", 0, (0,))
        self.assertEqual(all_back(desk, "ann"), 100)
        desk.say("ann", 0, (0,))
        self.assertEqual(all_back(desk, "ann"), 1)

    def test_those_of_another_hand_do_not_count(self):
        desk = Desk(greatest_named())
        for lot in many_lots(100):
            desk.say("ann", 0, lot)
            desk.say("bob", 1, lot)
        self.assertEqual(all_back(desk, "ann"), 100)
        self.assertEqual(all_back(desk, "bob"), 100)

    def test_undone_ones_that_are_forgotten_do_not_count(self):
        desk = Desk(greatest_named())
        lots = many_lots(200)
        for lot in lots[:100]:
            desk.say("ann", 0, lot)
        for _ in range(50):
            desk.undo("ann")
        for lot in lots[100:150]:
            desk.say("ann", 0, lot)
        self.assertEqual(all_back(desk, "ann"), 100)
        self.same(desk.book()[1][0], ())

    def test_any_deeds_of_three_hands(self):
        chance = random.Random(482)
        lots = [lot for many in (1, 2, 3) for lot in itertools.combinations(range(3), many)]
        told = {}
        for _ in range(150):
            desk = Desk(THREE)
            stands, done, undone = {}, {}, {}
            for _ in range(40):
                hand = chance.choice(("ann", "bob", "cid"))
                deed = chance.choice(("say", "say", "strike", "undo", "undo", "redo", "redo"))
                bar = (chance.randrange(2), chance.choice(lots[:4]))
                mine, past, future = (table.setdefault(hand, []) for table in (stands, done, undone))
                if deed == "say":
                    due = Twice if bar in mine else None
                    change = [(True, bar)]
                elif deed == "strike":
                    due = None if bar in mine else NoBar
                    change = [(False, bar)]
                elif deed == "undo":
                    due = None if past else NothingToUndo
                    change = [(not kind, one) for kind, one in past[-1:]]
                else:
                    due = None if future else NothingToRedo
                    change = future[-1:]
                try:
                    getattr(desk, deed)(*(hand,) + (bar if deed in ("say", "strike") else ()))
                    found = None
                except Refused as error:
                    found = type(error)
                self.assertIs(found, due)
                told[deed, due] = told.get((deed, due), 0) + 1
                if due is None:
                    ((kind, one),) = change
                    (mine.append if kind else mine.remove)(one)
                    if deed == "undo":
                        future.append(past.pop())
                    elif deed == "redo":
                        past.append(future.pop())
                    else:
                        past.append((kind, one))
                        future.clear()
                for move in range(2):
                    standing = sorted({lot for mine in stands.values() for at, lot in mine if at == move})
                    self.same(desk.book()[1][move], tuple(standing))
                    for lot in lots:
                        hands = sorted(one for one in stands if (move, lot) in stands[one])
                        self.same(desk.hands_of(move, lot), tuple(hands))
        self.assertEqual(len(told), 8)
        self.assertGreater(min(told.values()), 50)


class Programs(Strict):

    def test_put_program_and_drop(self):
        desk = Desk(THREE)
        self.same(desk.put("p", PROGRAM), None)
        self.same(desk.program("p"), PROGRAM)
        desk.put(word="q", program=())
        self.same(desk.program(word="q"), ())
        desk.put("p", (("go", 1),))
        self.same(desk.program("p"), (("go", 1),))
        self.same(desk.drop(word="p"), None)
        self.refused(NoProgram, "p", desk.program, "p")
        self.refused(NoProgram, "p", desk.drop, "p")
        self.same(desk.program("q"), ())

    def test_forty_and_forty_one(self):
        desk = Desk(THREE)
        for number in range(40):
            desk.put("p%d" % number, (("set", number % 8, 1),))
        self.refused(TooMany, 41, desk.put, "q", ())
        self.refused(NoProgram, "q", desk.program, "q")
        # A word that has one may be put anew.
        for number in (0, 17, 39):
            desk.put("p%d" % number, ())
            self.same(desk.program("p%d" % number), ())
        self.refused(TooMany, 41, desk.put, "q", ())
        desk.drop("p3")
        desk.put("q", PROGRAM)
        self.same(desk.program("q"), PROGRAM)
        self.refused(TooMany, 41, desk.put, "p3", ())
        self.same([desk.program("p%d" % number) for number in (4, 5)],
                  [(("set", 4, 1),), (("set", 5, 1),)])

    def test_words_that_have_none(self):
        desk = Desk(THREE)
        for word in ("p", "f", "home", "ann"):
            self.refused(NoProgram, word, desk.program, word)
            self.refused(NoProgram, word, desk.drop, word)

    def test_refusals_in_order(self):
        desk = Desk(THREE)
        for word in NO_NAMES:
            self.refused(BadName, word, desk.put, word, None)
            self.refused(BadName, word, desk.drop, word)
            self.refused(BadName, word, desk.program, word)
        for thing in NO_TUPLES:
            self.refused(BadProgram, (-1,), desk.put, "p", thing)
        self.refused(BadProgram, (1,), desk.put, "p", (("go", 1), ("go", 3)))
        self.refused(TooMany, 2001, desk.put, "p", (("times", 1, (("set", 0, 1),) * 200),) * 10)
        for number in range(40):
            desk.put("p%d" % number, ())
        self.refused(BadProgram, (-1,), desk.put, "q", None)
        self.refused(BadProgram, (0,), desk.put, "p1", (None,))
        self.same(desk.program("p1"), ())

    def test_a_program_may_ask_for_signs_without_names(self):
        desk = Desk(THREE)
        program = (("if", ("sign", 9), (), ()),)
        desk.put("p", program)
        self.same(desk.program("p"), program)


class Binds(Strict):

    def test_none_of_a_solvable_book(self):
        desk = Desk(THREE)
        self.same(desk.binds(), None)
        desk.say("ann", 1, (2,))
        self.same(desk.binds(), None)

    def test_with_their_hands(self):
        desk = Desk(THREE)
        desk.say("bob", 1, (0, 1))
        desk.say("ann", 1, (0,))
        desk.say("ann", 1, (1,))
        desk.say("cid", 1, (1,))
        # Without (0,) and (0, 1) the bar (1,) still keeps 0 and 1 from being told apart.
        self.same(desk.binds(), ((1, (1,), ("ann", "cid")),))
        desk.strike("ann", 1, (1,))
        self.same(desk.binds(), ((1, (1,), ("cid",)),))
        desk.say("cid", 0, (2,))
        self.same([row[:2] for row in desk.binds()], list(binding(desk.book())))

    def test_nothing_of_a_book_that_is_stuck_without_any_bar(self):
        named = (replaced(NAMED[0], 2, ((0,), (1,))), NAMES)
        named = (replaced(named[0], 3, ((0, 0), (0, 0))), NAMES)
        desk = Desk(named)
        self.same(desk.binds(), ())
        desk.say("ann", 0, (0,))
        self.same(desk.binds(), ())

    def test_as_binding_tells(self):
        chance = random.Random(483)
        told = [0, 0]
        for _ in range(300):
            named, book = some_named(chance, 0.45)
            desk = Desk(named)
            for move, lots in enumerate(book[1]):
                for lot in lots:
                    for hand in chance.choice((("ann",), ("bob",), ("bob", "ann"))):
                        desk.say(hand, move, lot)
            found = desk.binds()
            due = binding(book)
            if due is not None:
                due = tuple((move, lot, desk.hands_of(move, lot)) for move, lot in due)
            self.same(found, due)
            self.assertIs(found is None, solvable(book))
            told[found is None] += 1
        self.assertGreater(min(told), 50)


class Opened(Strict):

    def test_without_the_bars_of_this_hand_alone(self):
        desk = Desk(THREE)
        desk.say("ann", 0, (0,))
        desk.say("bob", 1, (1,))
        whole = ((0,), (1,), (2,))
        self.same(parting(desk.book()), ((0, 1, 2),))
        self.same(desk.opened("ann"), ((0, 1), (2,)))
        self.same(desk.opened("bob"), ((0, 2), (1,)))
        self.same(desk.opened("cid"), ((0, 1, 2),))
        # What another hand has said, too, is kept.
        desk.say("cid", 0, (0,))
        self.same(desk.opened("ann"), ((0, 1, 2),))
        self.same(desk.opened("cid"), ((0, 1, 2),))
        desk.strike("ann", 0, (0,))
        self.same(desk.opened("cid"), ((0, 1), (2,)))
        desk.strike("bob", 1, (1,))
        self.same(desk.opened(hand="cid"), whole)
        # It is only asked.
        self.same(desk.book(), (RIG, (((0,),), ())))

    def test_of_any_desk(self):
        chance = random.Random(484)
        for _ in range(100):
            named, book = some_named(chance)
            desk = Desk(named)
            said = []
            for move, lots in enumerate(book[1]):
                for lot in lots:
                    hands = chance.choice((("ann",), ("bob",), ("ann", "bob")))
                    for hand in hands:
                        desk.say(hand, move, lot)
                    said.append((move, lot, hands))
            for hand in ("ann", "bob", "cid"):
                left = [(move, lot) for move, lot, hands in said if hands != (hand,)]
                bars = tuple(tuple(sorted(lot for at, lot in left if at == move))
                             for move in range(len(book[1])))
                self.same(desk.opened(hand), parting((named[0], bars)))

    def test_refusals(self):
        desk = Desk(THREE)
        for hand in NO_NAMES:
            self.refused(BadName, hand, desk.opened, hand)


class Made(Strict):

    def test_refusals(self):
        self.refuses_wrong_named(Desk)
        self.assertGreater(len(WRONG_NAMED), 10)

    def test_desks_do_not_meet(self):
        one, two = Desk(THREE), Desk(THREE)
        one.say("ann", 0, (0,))
        one.put("p", ())
        self.same(state(two), state(Desk(THREE)))
        self.refused(NoProgram, "p", two.program, "p")
        self.refused(NothingToUndo, "ann", two.undo, "ann")


if __name__ == "__main__":
    unittest.main()
