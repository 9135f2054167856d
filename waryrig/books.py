"""Books of bars: what they are."""

from waryrig.errors import BadBook, BadLot, Refused
from waryrig.forms import is_ascending, is_tuple_of
from waryrig.rigs import FAULTS, MOVES, made_rig

MOST_BARS = 200
MOST_FAULTS_OF_BAR = 3


def made_book(thing):
    """Return the book, or raise BadBook, or what made_rig raises of its rig."""
    if not is_tuple_of(thing, 2, 2):
        raise BadBook(-1)
    rig, bars = thing
    made_rig(rig)
    many = len(rig[MOVES])
    if not is_tuple_of(bars, many, many):
        raise BadBook(-2)
    for move, entry in enumerate(bars):
        if not are_bars(rig, entry):
            raise BadBook(move)
    return thing


def is_book(thing):
    """Judge whether this is a book."""
    try:
        made_book(thing)
    except Refused:
        return False
    return True


def are_bars(rig, entry):
    """Tell whether this is an ascending tuple of bars, as many as are let."""
    if not is_tuple_of(entry, 0, MOST_BARS):
        return False
    # No bar is (), so the first one stands above it.
    ahead = ()
    for lot in entry:
        if not is_bar(rig, lot) or not ahead < lot:
            return False
        ahead = lot
    return True


def is_bar(rig, lot):
    """Tell whether this is a lot of one to three faults."""
    return is_tuple_of(lot, 1, MOST_FAULTS_OF_BAR) and is_ascending(lot, rig[FAULTS])


def check_bar(rig, lot):
    """Raise BadLot unless this is a lot of one to three faults."""
    if not is_bar(rig, lot):
        raise BadLot(-1)
