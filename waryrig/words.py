"""Texts: what they are, and their words, which are read from the left."""

from waryrig.errors import BadNumber, BadText, NoName, Twice
from waryrig.names import FIGURES, LETTERS, is_name

MOST_OF_TEXT = 60000
FIRST_CODE = 32
LAST_CODE = 126
BARRED_CODE = 37

# What stands for a word where the text ends.
END = ""


def check_text(text):
    """Raise BadText unless this is a text of signs that are let, not too long."""
    if not isinstance(text, str):
        raise BadText(-1)
    for place, sign in enumerate(text):
        code = ord(sign)
        if place == MOST_OF_TEXT or not FIRST_CODE <= code <= LAST_CODE or code == BARRED_CODE:
            raise BadText(place)


def words_of(text):
    """Return a list of pairs (word, place); the last one is the end of the text."""
    found = []
    begun = 0
    # The blank put behind the text ends its last word.
    for place, sign in enumerate(text + " "):
        if sign not in LETTERS and sign not in FIGURES:
            if begun < place:
                found.append((text[begun:place], begun))
            if sign != " ":
                found.append((sign, place))
            begun = place + 1
    found.append((END, len(text)))
    return found


def is_figure_word(word):
    """Tell whether this is a word of figures without a 0 that could be left out."""
    if word == END or not all([sign in FIGURES for sign in word]):
        return False
    return word == "0" or word[0] != "0"


class Words:
    """The words of a text, taken one behind another.

    Each method that takes a word asks first whether it can stand there.
    """

    def __init__(self, text):
        check_text(text)
        self.found = words_of(text)
        self.taken = 0

    def ahead(self):
        """Return the next word, END if there is none."""
        word, _ = self.found[self.taken]
        return word

    def place(self):
        """Return the place of the next word."""
        _, place = self.found[self.taken]
        return place

    def take(self, can_stand):
        """Take the next word, of which it is told whether it can stand there."""
        if not can_stand:
            raise BadText(self.place())
        word = self.ahead()
        if word != END:
            self.taken += 1
        return word

    def take_one_of(self, words):
        """Take one of these words, and return it."""
        return self.take(self.ahead() in words)

    def take_end(self):
        """See that no word is left."""
        self.take(self.ahead() == END)

    def take_name(self):
        """Take a name, and return it."""
        return self.take(is_name(self.ahead()))

    def take_known(self, numbers):
        """Take a name, and return the number that a dict has for it."""
        place = self.place()
        name = self.take_name()
        if name not in numbers:
            raise NoName(place)
        return numbers[name]

    def take_unlike(self, numbers, others):
        """Do what take_known does, with a number that is none of the others."""
        place = self.place()
        number = self.take_known(numbers)
        if number in others:
            raise Twice(place)
        return number

    def take_number(self, least, most):
        """Take a figure word, and return its number, which is of one figure."""
        place = self.place()
        word = self.take(is_figure_word(self.ahead()))
        # Longer words are not made numbers, as they may be of any length.
        if len(word) > 1 or not least <= int(word) <= most:
            raise BadNumber(place)
        return int(word)
