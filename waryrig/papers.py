"""The paper that shows that there is no code: a lot that nothing parts."""

from waryrig.books import made_book
from waryrig.ends import check_start, lots_of_ends
from waryrig.ground import Ground
from waryrig.lots import common_remedies


def stuck(book, start):
    """Return the first lot of an end from the start that is not done, or None."""
    rig, _ = made_book(book)
    check_start(rig, start)
    return first_stuck(rig, Ground(book), start)


def first_stuck(rig, ground, start):
    """Do what stuck does, of what is checked already, asked as lots_of_ends is."""
    for lot in lots_of_ends(rig, ground, start):
        if not common_remedies(rig, lot):
            return lot
    return None
