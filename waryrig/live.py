"""A person at the rig, who is led step by step."""

from waryrig.books import made_book
from waryrig.errors import Barred, BadSign, NoMove, NotSeen, Unlike
from waryrig.forms import is_number
from waryrig.free import first_within
from waryrig.ground import Ground
from waryrig.lots import common_remedies, every_fault
from waryrig.rigs import HOME, SIGNS, check_setting, moves_by_ends
from waryrig.solver import told_code


class Live:
    """Leads a person who says the sign of each setting that was come to."""

    def __init__(self, book):
        self.rig, self.bars = made_book(book)
        self.ground = Ground(book)
        self.known = every_fault(self.rig)
        # For each time that one came to a setting the sign said last there, or None.
        self.come = [(HOME, None)]

    def at(self):
        """Return the setting where one stands."""
        here, _ = self.come[-1]
        return here

    def knowledge(self):
        """Return the lot of the faults that agree with all signs seen so far."""
        return self.known

    def sees(self, sign):
        """Say that this sign is seen here."""
        here = self.at()
        row = self.rig[SIGNS][here]
        showing = tuple([x for x in self.known if row[x] == sign])
        if not is_number(sign) or not showing:
            raise BadSign(sign)
        self.known = showing
        self.come[-1] = (here, sign)

    def go(self, g):
        """Go to another setting by a move that is free."""
        check_setting(self.rig, g)
        self.check_said()
        move = moves_by_ends(self.rig).get((self.at(), g))
        if move is None:
            raise NoMove(g)
        lot = first_within(self.bars[move], self.known)
        if lot is not None:
            raise Barred(lot)
        self.come.append((g, None))

    def check_said(self):
        """Raise NotSeen unless the sign here was said since one came."""
        here, sign = self.come[-1]
        if sign is None:
            raise NotSeen(here)

    def moves(self):
        """Return the settings to which one may go now."""
        here, sign = self.come[-1]
        if sign is None:
            return ()
        return tuple(sorted(self.ground.joined(self.known)[here]))

    def remedies(self):
        """Return the remedies that cure all that is possible."""
        return common_remedies(self.rig, self.known)

    def home_free(self):
        """Return whether one can come home by moves that are free now."""
        return HOME in self.ground.region(self.known, self.at())

    def advice(self):
        """Return the row of the told code that is to be done here, or None."""
        self.check_said()
        code = told_code(self.ground, (self.known, self.at()))
        if code is None:
            return None
        return code[-1]

    def log(self):
        """Return the pairs (setting, sign said last) of all times that one came to one."""
        return tuple(self.come)

    def rebook(self, book):
        """Put another book of the same rig in the place of the one that stands."""
        rig, bars = made_book(book)
        if rig != self.rig:
            raise Unlike(0)
        self.bars = bars
        self.ground = Ground(book)
