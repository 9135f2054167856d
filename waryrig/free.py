"""Moves that are free, and books with one bar more or less."""

from waryrig.books import MOST_BARS, check_bar, made_book
from waryrig.errors import NoBar, TooMany, Twice
from waryrig.lots import check_lot
from waryrig.rigs import check_move


def free(book, lot, move):
    """Return whether the move is free while just this lot is still possible."""
    return barring(book, lot, move) is None


def barring(book, lot, move):
    """Return the first bar of the move that lies within the lot, or None."""
    rig, bars = made_book(book)
    check_lot(rig, lot)
    check_move(rig, move)
    return first_within(bars[move], lot)


def first_within(lots, lot):
    """Return the first of the lots that lies within the lot, or None."""
    for lesser in lots:
        if lies_within(lesser, lot):
            return lesser
    return None


def lies_within(lesser, lot):
    """Tell whether each fault of the one lot is in the other."""
    for x in lesser:
        if x not in lot:
            return False
    return True


def with_bar(book, move, lot):
    """Return the book in which the lot is one more bar of the move."""
    bars = bars_for_change(book, move, lot)
    if lot in bars:
        raise Twice(0)
    if len(bars) >= MOST_BARS:
        raise TooMany(MOST_BARS + 1)
    return with_bars_of(book, move, tuple(sorted([*bars, lot])))


def without_bar(book, move, lot):
    """Return the book in which the lot is no bar of the move any more."""
    bars = bars_for_change(book, move, lot)
    if lot not in bars:
        raise NoBar(0)
    return with_bars_of(book, move, tuple([bar for bar in bars if bar != lot]))


def bars_for_change(book, move, lot):
    """Check what a change of a bar is told by, and return the bars of the move."""
    rig, bars = made_book(book)
    check_move(rig, move)
    check_bar(rig, lot)
    return bars[move]


def with_bars_of(book, move, entry):
    """Return the book in which the move has these bars."""
    rig, bars = book
    return rig, bars[:move] + (entry,) + bars[move + 1:]
