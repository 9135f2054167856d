"""What a desk answers, as texts. What is asked about is checked already."""

from waryrig.closings import Closings
from waryrig.compiler import program_of
from waryrig.ends import from_home, lots_of_ends
from waryrig.ground import Ground
from waryrig.names import OF_FAULTS, OF_REMEDIES
from waryrig.papers import first_stuck
from waryrig.printprogram import text_of_program
from waryrig.readentries import bar_text
from waryrig.solver import told_code
from waryrig.trips import trips

NONE = "none"


def names_of_lot(names, lot):
    """Return the names of the faults of a lot."""
    return " ".join([names[OF_FAULTS][x] for x in lot])


def answer_of_check(names, found):
    """Return what is answered of a verdict."""
    if found is None:
        return "right"
    x, (_, last) = found
    words = [names[OF_FAULTS][x], last[0]]
    if last[0] == "cure":
        words.append(names[OF_REMEDIES][last[1]])
    elif last[0] == "barred":
        words.append(names_of_lot(names, last[2]))
    return " ".join(words)


def answer_of_parting(names, book):
    """Return the names of all that can be told apart."""
    rig, _ = book
    lots = lots_of_ends(rig, Ground(book), from_home(rig))
    return " | ".join([names_of_lot(names, lot) for lot in lots])


def answer_of_stuck(names, book):
    """Return the names of the lot that shows that the book is stuck, if it is."""
    rig, _ = book
    lot = first_stuck(rig, Ground(book), from_home(rig))
    if lot is None:
        return NONE
    return names_of_lot(names, lot)


def answer_of_trips(book):
    """Return how many trips are needed, if any are enough."""
    many = trips(book)
    if many is None:
        return NONE
    return str(many)


def answer_of_code(names, book):
    """Return the program that does what the told code does, if there is one."""
    rig, _ = book
    code = told_code(Ground(book), from_home(rig))
    if code is None:
        return NONE
    return text_of_program(names, program_of(rig, code))


def answer_of_opening(book, move, lot):
    """Return whether the move is open with the lot."""
    if Closings(book).opens(move, lot):
        return "yes"
    return "no"


def answer_of_binds(named, found):
    """Return the bars that bind with the hands that have said them, if there are any."""
    if found is None:
        return NONE
    told = []
    for move, lot, hands in found:
        text = bar_text(named, move, lot)
        said = " ".join(hands)
        told.append(f"{text} ({said})")
    return "; ".join(told)
