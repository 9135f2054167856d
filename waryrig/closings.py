"""Closings: what is seen at most while all of a lot is still possible."""

from waryrig.books import made_book
from waryrig.errors import BadLot, Refused
from waryrig.free import first_within
from waryrig.ground import Ground
from waryrig.lots import agreeing_at, check_lot, every_fault, has_parts
from waryrig.regions import distances, least_way
from waryrig.rigs import HOME, MOVES, SIGNS, check_move
from waryrig.walks import check_walk, first_not_free


def check_some_lot(rig, lot):
    """Raise BadLot unless this is a lot with a fault in it."""
    check_lot(rig, lot)
    if lot == ():
        raise BadLot(-1)


def check_opening(book, move, lot):
    """Check what the functions of this file about moves begin with."""
    rig, _ = made_book(book)
    check_move(rig, move)
    check_some_lot(rig, lot)


def closing(book, lot):
    """Return the pair (settings, K) of all that can be seen with the lot, or None."""
    rig, _ = made_book(book)
    check_some_lot(rig, lot)
    return Closings(book).closing_of(lot)


def open_with(book, move, lot):
    """Return whether some safe walk has the move free with all of the lot possible."""
    check_opening(book, move, lot)
    return Closings(book).opens(move, lot)


def open_walk(book, move, lot):
    """Return a walk behind which the move is free with all of the lot possible, or None."""
    check_opening(book, move, lot)
    return Closings(book).opening_walk(move, lot)


class Closings:
    """Tells the closings of lots in a book, which must be checked already."""

    def __init__(self, book):
        self.ground = Ground(book)
        # What is told of a lot is kept, as it is asked for many moves.
        self.closed = {}

    def closing_of(self, lot):
        """Do what closing does."""
        if lot not in self.closed:
            self.closed[lot] = closing_on(self.ground, lot)
        return self.closed[lot]

    def opens(self, move, lot):
        """Do what open_with does."""
        found = self.closing_of(lot)
        if found is None:
            return False
        settings, known = found
        low, high = self.ground.rig[MOVES][move]
        return (low in settings or high in settings) and self.ground.is_free(known, move)

    def opening_walk(self, move, lot):
        """Do what open_walk does."""
        if not self.opens(move, lot):
            return None
        opener = Opener(self.ground, lot)
        while not opener.has_opened(move):
            opener.go_to(opener.next_setting())
        opener.go_to(opener.least_end(move))
        return tuple(opener.steps)


def closing_on(ground, lot):
    """Return the closing of the lot, told by its ground."""
    rig = ground.rig
    if has_parts(rig, lot, HOME):
        return None
    let = [g for g in range(len(rig[SIGNS])) if not has_parts(rig, lot, g)]
    known = agreeing_at(rig, every_fault(rig), lot[0], (HOME,))
    while True:
        # In which order the settings are put in does not matter, so all that can
        # be at this K are put in at once.
        settings = tuple(sorted(distances(joined_within(ground.joined(known), let), HOME)))
        lesser = agreeing_at(rig, known, lot[0], settings)
        if lesser == known:
            return settings, known
        known = lesser


def joined_within(joined, settings):
    """Return the lists of what is joined without all but these settings."""
    let = {g: True for g in settings}
    return [[there for there in near if there in let] for near in joined]


class Opener:
    """Goes from home as long as all of a lot is still possible, always to the least."""

    def __init__(self, ground, lot):
        self.ground = ground
        self.lot = lot
        self.steps = [HOME]
        self.come = {HOME: True}
        self.known = agreeing_at(ground.rig, every_fault(ground.rig), lot[0], (HOME,))

    def has_opened(self, move):
        """Tell whether an end of the move was come to, and it is free at what is seen."""
        return len(self.ends_come_to(move)) > 0 and self.ground.is_free(self.known, move)

    def ends_come_to(self, move):
        """Return the ends of the move that were come to."""
        return [g for g in self.ground.rig[MOVES][move] if g in self.come]

    def least_end(self, move):
        """Return the lesser of the ends of the move that were come to."""
        return min(self.ends_come_to(move))

    def next_setting(self):
        """Return the least setting that can be come to next with all of the lot possible."""
        joined = self.ground.joined(self.known)
        near = [there for here in self.come for there in joined[here] if there not in self.come]
        return min([g for g in near if not has_parts(self.ground.rig, self.lot, g)])

    def go_to(self, g):
        """Go to the setting through those come to, and see its sign."""
        joined = joined_within(self.ground.joined(self.known), list(self.come) + [g])
        self.steps.extend(least_way(joined, self.steps[-1], g)[1:])
        self.come[g] = True
        self.known = agreeing_at(self.ground.rig, self.known, self.lot[0], (g,))


def open_walk_right(book, move, lot, walk):
    """Judge whether the move is free behind this safe walk with all of the lot possible."""
    try:
        check_opening(book, move, lot)
        rig, bars = book
        check_walk(rig, walk)
    except Refused:
        return False
    for g in walk:
        if has_parts(rig, lot, g):
            return False
    if walk[-1] not in rig[MOVES][move] or first_not_free(book, lot[0], walk) is not None:
        return False
    known = agreeing_at(rig, every_fault(rig), lot[0], walk)
    return first_within(bars[move], known) is None
