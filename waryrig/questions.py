"""Questions about a book and a fault: what safe walks under it make, and rule out."""

from waryrig.books import made_book
from waryrig.closings import Closings
from waryrig.ends import end_at, from_home
from waryrig.errors import BadFault
from waryrig.forms import is_index
from waryrig.free import first_within
from waryrig.lots import common_remedies
from waryrig.rigs import FAULTS, MOVES, check_fault, check_move


def can_make(book, x, move):
    """Return whether some walk that is safe under x makes the move."""
    rig, bars = checked(book, x, move)
    known, settings = end_at(book, from_home(rig), x)
    low, high = rig[MOVES][move]
    return first_within(bars[move], known) is None and (low in settings or high in settings)


def always_out(book, x, move, y):
    """Return whether y is ruled out whenever the move is made in a walk safe under x."""
    rig, _ = checked(book, x, move)
    check_other_fault(rig, y, (x,))
    return not Closings(book).opens(move, lot_of(x, y))


def must(book, x, move):
    """Return whether each safe walk under x that comes to a done knowledge makes the move."""
    rig, _ = checked(book, x, move)
    known, _ = end_at(without_move(book, move), from_home(rig), x)
    return not common_remedies(rig, known)


def out_first(book, x, y, z):
    """Return whether some walk safe under x rules out y while z is still possible."""
    rig, _ = made_book(book)
    check_fault(rig, x)
    check_other_fault(rig, y, (x,))
    check_other_fault(rig, z, (x, y))
    found = Closings(book).closing_of(lot_of(x, z))
    if found is None:
        return False
    _, known = found
    return y not in known


def checked(book, x, move):
    """Check what most functions of this file begin with, and return the book."""
    rig, _ = made_book(book)
    check_fault(rig, x)
    check_move(rig, move)
    return book


def check_other_fault(rig, y, others):
    """Raise BadFault unless y is a fault, and none of the others."""
    if not is_index(y, rig[FAULTS]) or y in others:
        raise BadFault(y)


def lot_of(x, y):
    """Return the lot of two unlike faults."""
    return min(x, y), max(x, y)


def without_move(book, move):
    """Return the book of the rig without this move, and without its bars."""
    rig, bars = book
    moves = rig[MOVES]
    rig = (*rig[:MOVES], moves[:move] + moves[move + 1:])
    return rig, bars[:move] + bars[move + 1:]
