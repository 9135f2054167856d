"""The paper that shows that there is no code: a lot that nothing parts."""

from waryrig.books import made_book
from waryrig.ends import check_start, lots_of_ends
from waryrig.lots import common_remedies


def stuck(book, start):
    """Return the first lot of an end from the start that is not done, or None."""
    rig, _ = made_book(book)
    check_start(rig, start)
    for lot in lots_of_ends(book, start):
        if not common_remedies(rig, lot):
            return lot
    return None
