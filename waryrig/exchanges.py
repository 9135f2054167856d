"""Exchanges: from one order to another, each step between neighbours in it."""

from waryrig.errors import NotOrder
from waryrig.orders import checked_visits


def exchanged(order, i):
    """Return the tuple with the settings at the places i and i + 1 exchanged."""
    return order[:i] + (order[i + 1], order[i]) + order[i + 2:]


def exchanges(book, x, one, two):
    """Return the places of the exchanges by which the order one becomes the order two."""
    visits = checked_visits(book, x)
    for number, order in enumerate((one, two)):
        if not visits.is_order(order):
            raise NotOrder(number)
    places = []
    now = one
    for due, g in enumerate(two):
        stands = now.index(g)
        for i in range(stands - 1, due - 1, -1):
            now = exchanged(now, i)
            places.append(i)
    return tuple(places)
