"""From texts to the rows of a desk."""

from waryrig.names import is_name
from waryrig.readentries import bar_from
from waryrig.readprogram import program_from
from waryrig.words import Words

DEEDS = ("bar", "strike", "undo", "redo")
OTHERS = ("put", "drop", "check", "parting", "stuck", "trips", "code", "open", "binds")


def row_of(named, text):
    """Return the row that the text tells: a tuple of its kind, and of what stands with it."""
    words = Words(text)
    if is_name(words.ahead()):
        row = row_of_hand(words, named)
    else:
        row = other_row(words, named)
    words.take_end()
    return row


def row_of_hand(words, named):
    """Read a row that begins with a hand."""
    hand = words.take_name()
    kind = words.take_one_of(DEEDS)
    if kind == "undo" or kind == "redo":
        return kind, hand
    move, lot = bar_from(words, named)
    return kind, hand, move, lot


def other_row(words, named):
    """Read a row that begins with a reserved word."""
    kind = words.take_one_of(OTHERS)
    if kind == "put":
        word = words.take_name()
        return kind, word, program_from(words, named)
    if kind == "drop" or kind == "check":
        return kind, words.take_name()
    if kind == "open":
        move, lot = bar_from(words, named)
        return kind, move, lot
    return (kind,)
