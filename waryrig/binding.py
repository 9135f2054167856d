"""What binds: bars none of which can be spared if a book is to be stuck."""

from waryrig.books import made_book
from waryrig.ends import from_home
from waryrig.free import first_within, lies_within, with_bars_of
from waryrig.ground import Ground
from waryrig.papers import first_stuck


def binding(book):
    """Return the pairs (move, lot) of the bars that bind, None of a solvable book."""
    _, bars = made_book(book)
    lot = stuck_from_home(book)
    if lot is None:
        return None
    binder = Binder(book, lot)
    for move, lots in enumerate(bars):
        for bar in lots:
            binder.try_without(move, bar)
    return tuple(binder.kept)


def stuck_from_home(book):
    """Return the lot of the paper that shows that the book is stuck, or None."""
    rig, _ = book
    return first_stuck(rig, Ground(book), from_home(rig))


class Binder:
    """Takes bars out of a book that is stuck, as long as it stays so."""

    def __init__(self, book, lot):
        self.left = book
        self.lot = lot
        self.kept = []

    def try_without(self, move, bar):
        """Take the bar out, and put it in again if the book is solvable without it."""
        _, bars = self.left
        others = tuple([one for one in bars[move] if one != bar])
        lesser = with_bars_of(self.left, move, others)
        lot = self.lot
        # The lot shows that the book is stuck by the moves that are free at it; so it
        # is asked anew only if the move is one more of these.
        if lies_within(bar, lot) and first_within(others, lot) is None:
            lot = stuck_from_home(lesser)
        if lot is None:
            self.kept.append((move, bar))
        else:
            self.left = lesser
            self.lot = lot
