"""Rounds: trips that come to all that can be come to at one lot."""

from waryrig.books import made_book
from waryrig.lots import check_lot
from waryrig.regions import joined_by_free
from waryrig.rigs import HOME


def round_walk(book, lot):
    """Return the walk from home and home again through the region of the lot."""
    rig, _ = made_book(book)
    check_lot(rig, lot)
    return round_through(joined_by_free(book, lot))


def round_through(joined):
    """Return the round through settings that are joined as these lists tell."""
    back = {HOME: None}
    steps = []
    here = HOME
    while here is not None:
        steps.append(here)
        fresh = [there for there in joined[here] if there not in back]
        if fresh:
            back[min(fresh)] = here
            here = min(fresh)
        else:
            here = back[here]
    return tuple(steps)
