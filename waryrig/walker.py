"""One who goes through a rig under a fault, seeing the sign of each setting."""

from waryrig.free import first_within
from waryrig.lots import agreeing_at
from waryrig.rigs import SIGNS, moves_by_ends


class Walker:
    """Stands at a setting, and has a lot of what is possible by all signs seen.

    What it is made from must be checked already.
    """

    def __init__(self, book, start, x):
        self.rig, self.bars = book
        self.x = x
        self.by_ends = moves_by_ends(self.rig)
        self.lot, self.here = start
        self.steps = []
        # Settings come to again show nothing new, and what is barred hangs on the
        # lot alone; so both are kept, as a walk may have millions of settings.
        self.looked = {}
        self.first_bars = {}
        self.come_to(self.here)

    def come_to(self, g):
        """Stand at the setting, and see its sign."""
        self.here = g
        self.steps.append(g)
        if g not in self.looked:
            self.looked[g] = True
            self.lot = agreeing_at(self.rig, self.lot, self.x, (g,))
            self.first_bars = {}

    def move_to(self, g):
        """Return the move that joins the setting with this one, or None."""
        return self.by_ends.get((self.here, g))

    def bar_of(self, move):
        """Return the first bar of the move that lies within the lot, or None."""
        if move not in self.first_bars:
            self.first_bars[move] = first_within(self.bars[move], self.lot)
        return self.first_bars[move]

    def sign(self):
        """Return the sign that is seen here."""
        return self.rig[SIGNS][self.here][self.x]

    def walk(self):
        """Return all settings come to."""
        return tuple(self.steps)
