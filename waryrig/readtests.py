"""From texts to the tests of programs."""

from waryrig.errors import TooDeep
from waryrig.programs import DEEPEST_TEST, FLAGS

MOST_BRACKETS = 6


class TestReader:
    """Reads tests from words, as pairs of how deep they are and what they are."""

    def __init__(self, words, signs):
        self.words = words
        self.signs = signs

    def read_test(self, brackets):
        """Read both-parts with "or" between them, standing within so many brackets."""
        left = self.read_both(brackets)
        while self.words.ahead() == "or":
            place = self.take_joining("or")
            left = joined("or", place, [left, self.read_both(brackets)])
        return left

    def read_both(self, brackets):
        """Read not-parts with "and" between them."""
        left = self.read_not(brackets)
        while self.words.ahead() == "and":
            place = self.take_joining("and")
            left = joined("and", place, [left, self.read_not(brackets)])
        return left

    def read_not(self, brackets):
        """Read a single test with any many "not" ahead of it."""
        # They are not read by calls within one another, as there may be thousands
        # of them in a text before it is known what is wrong with it.
        places = []
        while self.words.ahead() == "not":
            places.append(self.take_joining("not"))
        part = self.read_single(brackets)
        for place in reversed(places):
            part = joined("not", place, [part])
        return part

    def take_joining(self, word):
        """Take the word, and return its place."""
        place = self.words.place()
        self.words.take_one_of((word,))
        return place

    def read_single(self, brackets):
        """Read a test in brackets, a flag or a sign."""
        word = self.words.ahead()
        if word == "(":
            place = self.take_joining("(")
            if brackets == MOST_BRACKETS:
                raise TooDeep(place)
            inner = self.read_test(brackets + 1)
            self.words.take_one_of((")",))
            return inner
        if word == "flag":
            self.words.take_one_of(("flag",))
            return 1, ("flag", self.words.take_number(0, FLAGS - 1))
        return 1, ("sign", self.words.take_known(self.signs))


def joined(word, place, parts):
    """Return the parts joined by the word that stands at the place."""
    deep = 1 + max([part[0] for part in parts])
    if deep > DEEPEST_TEST:
        raise TooDeep(place)
    return deep, (word, *[test for _, test in parts])
