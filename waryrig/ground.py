"""Where free moves lead, for one who asks it of many lots of one book."""

from waryrig.regions import distances
from waryrig.rigs import MOVES, SIGNS


class Ground:
    """Tells which settings are joined by moves that are free at a lot.

    The book that it is made from must be checked already.
    """

    def __init__(self, book):
        self.rig, bars = book
        # A bar is compared with a lot at once if both are numbers with a bit for
        # each fault. What is told of a lot is kept, as the same lots come again.
        self.bars = [[bits_of(lot) for lot in lots] for lots in bars]
        self.told = {}

    def joined(self, lot):
        """Return for each setting a list of those joined with it by a free move."""
        if lot not in self.told:
            self.told[lot] = self.joined_anew(bits_of(lot))
        return self.told[lot]

    def joined_anew(self, possible):
        """Return what joined tells of the lot with these bits."""
        found = [[] for row in self.rig[SIGNS]]
        for move, (low, high) in enumerate(self.rig[MOVES]):
            if not some_within(self.bars[move], possible):
                found[low].append(high)
                found[high].append(low)
        return found

    def is_free(self, lot, move):
        """Tell whether the move is free at the lot."""
        low, high = self.rig[MOVES][move]
        return high in self.joined(lot)[low]

    def region(self, lot, g):
        """Return the settings that can be come to from g at the lot, ascending."""
        return tuple(sorted(distances(self.joined(lot), g)))


def bits_of(lot):
    """Return a number in which just the bits of these faults are set."""
    return sum([1 << x for x in lot])


def some_within(bars, possible):
    """Tell whether some of these bars lies within what is possible, all being bits."""
    for bar in bars:
        if bar & possible == bar:
            return True
    return False
