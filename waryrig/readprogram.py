"""From texts to programs."""

from waryrig.errors import TooDeep, TooMany
from waryrig.names import OF_REMEDIES, OF_SETTINGS, OF_SIGNS, made_named, numbers_of
from waryrig.programs import (
    DEEPEST_BODY, FLAGS, MOST_OF_BODY, MOST_STATEMENTS, MOST_TIMES, MOST_TIMES_WITHIN,
)
from waryrig.readtests import TestReader
from waryrig.words import END, Words

STATEMENTS = ("go", "cure", "set", "clear", "if", "times")


def read_program(named, text):
    """Return the program that the text tells."""
    made_named(named)
    return program_from(Words(text), named)


def program_from(words, named):
    """Read a program to the end of the text, and return it."""
    return ProgramReader(words, named).read_body(END, 1, 0)


class ProgramReader:
    """Reads the statements of a program, and counts them.

    Bodies are told how deep they lie, and within how many times they stand.
    """

    def __init__(self, words, named):
        _, names = named
        self.words = words
        self.remedy_names = numbers_of(names[OF_REMEDIES])
        self.setting_names = numbers_of(names[OF_SETTINGS])
        self.tests = TestReader(words, numbers_of(names[OF_SIGNS]))
        self.met = 0

    def read_body(self, last, deep, times):
        """Read a body and the word behind it, which is told."""
        body = []
        word = ";"
        if self.words.ahead() == last:
            word = self.words.take_one_of((last,))
        while word == ";":
            body.append(self.read_statement(len(body), deep, times))
            word = self.words.take_one_of((";", last))
        return tuple(body)

    def read_statement(self, ahead, deep, times):
        """Read a statement with so many ahead of it in its body."""
        place = self.words.place()
        kind = self.words.take_one_of(STATEMENTS)
        self.count_one(ahead, place)
        if kind == "go":
            return kind, self.words.take_known(self.setting_names)
        if kind == "cure":
            return kind, self.words.take_known(self.remedy_names)
        if kind == "set" or kind == "clear":
            return "set", self.words.take_number(0, FLAGS - 1), int(kind == "set")
        if kind == "if":
            return self.read_choice(deep, times)
        if times >= MOST_TIMES_WITHIN:
            raise TooDeep(place)
        many = self.words.take_number(1, MOST_TIMES)
        return kind, many, self.read_block(deep, times + 1)

    def count_one(self, ahead, place):
        """Count the statement that begins at the place."""
        self.met += 1
        if ahead >= MOST_OF_BODY or self.met > MOST_STATEMENTS:
            raise TooMany(place)

    def read_choice(self, deep, times):
        """Read what stands behind "if", and return the statement."""
        _, test = self.tests.read_test(0)
        first = self.read_block(deep, times)
        second = ()
        if self.words.ahead() == "else":
            self.words.take_one_of(("else",))
            second = self.read_block(deep, times)
        return "if", test, first, second

    def read_block(self, deep, times):
        """Read the block of a statement that stands in a body so deep."""
        place = self.words.place()
        self.words.take_one_of(("{",))
        if deep + 1 > DEEPEST_BODY:
            raise TooDeep(place)
        return self.read_body("}", deep + 1, times)
