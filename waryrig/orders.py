"""Orders: in which settings can be come to first, and their numbers."""

from waryrig.books import made_book
from waryrig.ends import end_at, from_home
from waryrig.errors import BadNumber, NotOrder, Refused, TooMany
from waryrig.forms import is_index, is_tuple_of
from waryrig.ground import bits_of
from waryrig.lots import every_fault
from waryrig.rigs import HOME, MOVES, SIGNS, check_fault

MOST_FOR_NUMBERS = 12


def order_right(book, x, order):
    """Judge whether this is an order under x."""
    try:
        visits = checked_visits(book, x)
    except Refused:
        return False
    return visits.is_order(order)


def first_order(book, x):
    """Return the least order under x."""
    visits = checked_visits(book, x)
    order = []
    for _ in visits.settings:
        order.append(visits.next_ones(bits_of(order))[0])
    return tuple(order)


def count_orders(book, x):
    """Return how many orders there are under x."""
    return few_visits(book, x).count_behind(0)


def nth_order(book, x, k):
    """Return the order of the number k."""
    visits = few_visits(book, x)
    if not is_index(k, visits.count_behind(0)):
        raise BadNumber(k)
    return visits.order_at(k)


def number_of(book, x, order):
    """Return the number of the order."""
    visits = few_visits(book, x)
    if not visits.is_order(order):
        raise NotOrder(0)
    return visits.place_of(order)


def checked_visits(book, x):
    """Check a book and a fault, and return their visits."""
    rig, _ = made_book(book)
    check_fault(rig, x)
    return Visits(book, x)


def few_visits(book, x):
    """Do what checked_visits does, and raise TooMany if orders are not to be counted."""
    visits = checked_visits(book, x)
    many = len(visits.settings)
    if many > MOST_FOR_NUMBERS:
        raise TooMany(many)
    return visits


class Visits:
    """Tells which settings can be come to next under a fault.

    The settings that were come to are told by a number with a bit for each of them.
    """

    def __init__(self, book, x):
        rig, bars = book
        _, self.settings = end_at(book, from_home(rig), x)
        self.whole = bits_of(self.settings)
        ruling_out = [bits_that_rule_out(rig, x, y) for y in every_fault(rig)]
        self.near = [[] for row in rig[SIGNS]]
        for move, (low, high) in enumerate(rig[MOVES]):
            lifts = bits_that_lift(bars[move], ruling_out, self.whole)
            self.near[low].append((1 << high, lifts))
            self.near[high].append((1 << low, lifts))
        self.counts = {}

    def can_be_next(self, g, come):
        """Tell whether the setting can be come to first behind those."""
        if come == 0:
            return g == HOME
        if come & (1 << g):
            return False
        return any([bit & come and all_met(lifts, come) for bit, lifts in self.near[g]])

    def next_ones(self, come):
        """Return the settings that can be come to first behind those, ascending."""
        return [g for g in self.settings if self.can_be_next(g, come)]

    def is_order(self, thing):
        """Tell whether this is an order."""
        if not is_tuple_of(thing, len(self.settings), len(self.settings)):
            return False
        come = 0
        for g in thing:
            if not is_index(g, len(self.near)) or not self.can_be_next(g, come):
                return False
            come = come | (1 << g)
        return True

    def count_behind(self, come):
        """Return how many orders begin with those settings, in one order of them."""
        if come == self.whole:
            return 1
        # What can follow hangs on which settings were come to, not on their order,
        # so there are few to be counted where there are millions of orders.
        if come not in self.counts:
            self.counts[come] = sum([self.count_behind(come | (1 << g)) for g in self.next_ones(come)])
        return self.counts[come]

    def order_at(self, k):
        """Return the order of the number k, which is below how many there are."""
        order = []
        come = 0
        while come != self.whole:
            for g in self.next_ones(come):
                many = self.count_behind(come | (1 << g))
                if k < many:
                    break
                k = k - many
            order.append(g)
            come = come | (1 << g)
        return tuple(order)

    def place_of(self, order):
        """Return the number of the order."""
        number = 0
        come = 0
        for g in order:
            lesser = [other for other in self.next_ones(come) if other < g]
            number = number + sum([self.count_behind(come | (1 << other)) for other in lesser])
            come = come | (1 << g)
        return number


def bits_that_rule_out(rig, x, y):
    """Return the bits of the settings at which y does not agree with x."""
    return bits_of([g for g, row in enumerate(rig[SIGNS]) if row[y] != row[x]])


def bits_that_lift(lots, ruling_out, whole):
    """Return for each bar the bits of those settings of the whole that end it, unlike ones once.

    A bar bars no more when one of its faults is ruled out.
    """
    found = {}
    for lot in lots:
        lift = 0
        for y in lot:
            lift = lift | ruling_out[y]
        found[lift & whole] = True
    return list(found)


def all_met(lifts, come):
    """Tell whether each of the lifts has a bit of those that were come to."""
    for lift in lifts:
        if not lift & come:
            return False
    return True
