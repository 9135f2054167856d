"""Chains: the lots that show that fewer trips do not do."""

from waryrig.books import made_book
from waryrig.ground import Ground
from waryrig.trips import courses_on, trips_of


def chain(book):
    """Return the chain for as many trips as are needed, None if none are enough."""
    made_book(book)
    ground = Ground(book)
    courses = courses_on(ground)
    if trips_of(ground, courses) is None:
        return None
    # Of several that are longest max takes the first, that of the least fault.
    longest = max(courses, key=len)
    return tuple(reversed(longest[:-1]))
