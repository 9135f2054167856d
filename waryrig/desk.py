"""A desk at which several hands say and strike bars, and programs are kept."""

from waryrig.answers import (
    answer_of_binds, answer_of_check, answer_of_code, answer_of_opening, answer_of_parting,
    answer_of_stuck, answer_of_trips,
)
from waryrig.binding import binding
from waryrig.books import MOST_BARS, check_bar
from waryrig.checker import verdict
from waryrig.ends import parting
from waryrig.errors import (
    NoBar, NoProgram, NothingToRedo, NothingToUndo, Refused, TooMany, Twice,
)
from waryrig.names import check_name, made_named
from waryrig.programs import check_program
from waryrig.readrow import row_of
from waryrig.rigs import MOVES, check_move

MOST_KEPT = 100
MOST_PROGRAMS = 40


class Desk:
    """Keeps bars that hands have said, and programs by words, for a named rig."""

    def __init__(self, named):
        self.rig, self.names = made_named(named)
        # For each move a dict of the lots that stand there, with their hands.
        self.standing = [{} for move in self.rig[MOVES]]
        # For each hand lists of its deeds: what was done is told by whether the bar
        # stands behind it, the move and the lot.
        self.done = {}
        self.undone = {}
        self.programs = {}

    def say(self, hand, move, lot):
        """Let a bar of a hand stand."""
        check_name(hand)
        self.check_entry(move, lot)
        if hand in self.hands_at(move, lot):
            raise Twice(0)
        self.do_anew(hand, (True, move, lot))

    def strike(self, hand, move, lot):
        """Take a bar of a hand away."""
        check_name(hand)
        self.check_entry(move, lot)
        if hand not in self.hands_at(move, lot):
            raise NoBar(0)
        self.do_anew(hand, (False, move, lot))

    def undo(self, hand):
        """Take back what the hand did last."""
        check_name(hand)
        done = self.done.get(hand)
        if not done:
            raise NothingToUndo(hand)
        stands, move, lot = done[-1]
        self.change(hand, not stands, move, lot)
        self.undone.setdefault(hand, []).append(done.pop())

    def redo(self, hand):
        """Do again what the hand took back last."""
        check_name(hand)
        undone = self.undone.get(hand)
        if not undone:
            raise NothingToRedo(hand)
        stands, move, lot = undone[-1]
        self.change(hand, stands, move, lot)
        self.done.setdefault(hand, []).append(undone.pop())

    def put(self, word, program):
        """Keep a program under a word."""
        check_name(word)
        check_program(self.rig, program)
        if word not in self.programs and len(self.programs) >= MOST_PROGRAMS:
            raise TooMany(MOST_PROGRAMS + 1)
        self.programs[word] = program

    def drop(self, word):
        """Keep the program of the word no more."""
        self.check_word(word)
        del self.programs[word]

    def book(self):
        """Return the book of all bars that stand."""
        return self.book_of([list(lots) for lots in self.standing])

    def hands_of(self, move, lot):
        """Return the hands of which this bar stands."""
        self.check_entry(move, lot)
        return self.hands_at(move, lot)

    def binds(self):
        """Return the bars that bind, each with its hands, None if the book is solvable."""
        found = binding(self.book())
        if found is None:
            return None
        return tuple([(move, lot, self.hands_at(move, lot)) for move, lot in found])

    def opened(self, hand):
        """Return what could be told apart without the bars that only this hand has said."""
        check_name(hand)
        kept = [[lot for lot in lots if lots[lot] != (hand,)] for lots in self.standing]
        return parting(self.book_of(kept))

    def program(self, word):
        """Return the program that is kept under the word."""
        self.check_word(word)
        return self.programs[word]

    def row(self, text):
        """Do or ask what a row tells, and return the answer."""
        try:
            return self.answer(row_of((self.rig, self.names), text))
        except Refused as refusal:
            return "refused " + refusal.kind

    def check_entry(self, move, lot):
        """Check the two that tell a bar."""
        check_move(self.rig, move)
        check_bar(self.rig, lot)

    def check_word(self, word):
        """Raise what is to be raised unless a program is kept under the word."""
        check_name(word)
        if word not in self.programs:
            raise NoProgram(word)

    def hands_at(self, move, lot):
        """Do what hands_of does, of what is checked already."""
        return self.standing[move].get(lot, ())

    def book_of(self, bars):
        """Return the book of these bars, lists of lots in any order."""
        return self.rig, tuple([tuple(sorted(lots)) for lots in bars])

    def do_anew(self, hand, deed):
        """Do what was not done by undo or redo, and keep it."""
        stands, move, lot = deed
        self.change(hand, stands, move, lot)
        self.undone[hand] = []
        done = self.done.setdefault(hand, [])
        done.append(deed)
        if len(done) > MOST_KEPT:
            del done[0]

    def change(self, hand, stands, move, lot):
        """Let the bar of the hand stand, or take it away."""
        lots = self.standing[move]
        hands = [other for other in self.hands_at(move, lot) if other != hand]
        if stands:
            if lot not in lots and len(lots) >= MOST_BARS:
                raise TooMany(MOST_BARS + 1)
            hands.append(hand)
        lots[lot] = tuple(sorted(hands))
        if not hands:
            del lots[lot]

    def answer(self, row):
        """Do or ask what a row tells that is read already."""
        kind, *rest = row
        if kind in ("parting", "stuck", "trips", "code", "open", "binds"):
            return self.answer_of_book(kind, rest)
        if kind == "check":
            return answer_of_check(self.names, verdict(self.book(), self.program(rest[0])))
        if kind == "bar":
            self.say(rest[0], rest[1], rest[2])
        elif kind == "strike":
            self.strike(rest[0], rest[1], rest[2])
        elif kind == "undo":
            self.undo(rest[0])
        elif kind == "redo":
            self.redo(rest[0])
        elif kind == "put":
            self.put(rest[0], rest[1])
        else:
            self.drop(rest[0])
        return "ok"

    def answer_of_book(self, kind, rest):
        """Answer a question about the book of the desk."""
        book = self.book()
        if kind == "parting":
            return answer_of_parting(self.names, book)
        if kind == "stuck":
            return answer_of_stuck(self.names, book)
        if kind == "trips":
            return answer_of_trips(book)
        if kind == "code":
            return answer_of_code(self.names, book)
        if kind == "open":
            return answer_of_opening(book, rest[0], rest[1])
        return answer_of_binds((self.rig, self.names), self.binds())
