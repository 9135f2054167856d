"""Bars as texts."""

from waryrig.books import MOST_FAULTS_OF_BAR, check_bar
from waryrig.errors import NoMove
from waryrig.names import OF_FAULTS, OF_SETTINGS, made_named, numbers_of
from waryrig.rigs import MOVES, check_move, moves_by_ends
from waryrig.words import Words


def read_bar(named, text):
    """Return the move and the lot of the bar that the text tells."""
    made_named(named)
    words = Words(text)
    words.take_one_of(("bar",))
    bar = bar_from(words, named)
    words.take_end()
    return bar


def bar_from(words, named):
    """Read a move, and the lot that bars it, and return both."""
    rig, names = named
    move = move_from(words, rig, numbers_of(names[OF_SETTINGS]))
    words.take_one_of(("while",))
    faults = numbers_of(names[OF_FAULTS])
    lot = [words.take_known(faults)]
    while len(lot) < MOST_FAULTS_OF_BAR and words.ahead() == "and":
        words.take_one_of(("and",))
        lot.append(words.take_unlike(faults, lot))
    return move, tuple(sorted(lot))


def move_from(words, rig, settings):
    """Read the names of two settings that a move joins, and return the move."""
    one = words.take_known(settings)
    words.take_one_of(("-",))
    place = words.place()
    other = words.take_known(settings)
    move = moves_by_ends(rig).get((one, other))
    if move is None:
        raise NoMove(place)
    return move


def print_bar(named, move, lot):
    """Return the text of a bar."""
    rig, _ = made_named(named)
    check_move(rig, move)
    check_bar(rig, lot)
    return bar_text(named, move, lot)


def bar_text(named, move, lot):
    """Do what print_bar does, of what is checked already."""
    rig, names = named
    low, high = [names[OF_SETTINGS][g] for g in rig[MOVES][move]]
    faults = " and ".join([names[OF_FAULTS][x] for x in lot])
    return f"bar {low} - {high} while {faults}"
