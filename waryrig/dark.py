"""Settings that are dark: they show nothing."""

from itertools import combinations

from waryrig.books import made_book
from waryrig.ends import from_home
from waryrig.errors import BadNumber, TooMany
from waryrig.forms import is_from
from waryrig.ground import Ground
from waryrig.kernel import MOST_DARK, with_dark
from waryrig.lots import agreeing_at, check_settings, every_fault, least_remedy
from waryrig.papers import first_stuck
from waryrig.rigs import HOME, SIGNS, check_fault
from waryrig.solver import way_to_part

MOST_TO_DARKEN = 16


def darkened(book, settings):
    """Return the book in which each fault shows 0 at each of the settings."""
    rig, _ = made_book(book)
    check_settings(rig, settings)
    return with_dark(book, settings)


def dark_paper(book, r):
    """Return the first pair (lot, settings) by which r dark settings make it stuck, or None."""
    rig, _ = made_book(book)
    if not is_from(r, 0, MOST_DARK):
        raise BadNumber(r)
    check_few(rig)
    return first_paper(book, Ground(book), dark_sets(len(rig[SIGNS]), r))


def check_few(rig):
    """Raise TooMany if there are more settings than are let here."""
    many = len(rig[SIGNS])
    if many > MOST_TO_DARKEN:
        raise TooMany(many)


def dark_sets(many, r):
    """Return the ascending tuples of r of so many settings, or of all if they are fewer."""
    if many <= r:
        return [tuple(range(many))]
    return list(combinations(range(many), r))


def first_paper(book, ground, sets):
    """Return what dark_paper tells, of the tuples of settings that are gone through."""
    for settings in sets:
        rig, _ = with_dark(book, settings)
        lot = first_stuck(rig, ground, from_home(rig))
        if lot is not None:
            return lot, settings
    return None


def strength(book):
    """Return the greatest number of settings, up to 3, that may be dark, -1 if not even none."""
    rig, _ = made_book(book)
    check_few(rig)
    ground = Ground(book)
    # What makes the book stuck does so with one more dark setting, too.
    for r in range(MOST_DARK + 1):
        if first_paper(book, ground, dark_sets(len(rig[SIGNS]), r)) is not None:
            return r - 1
    return MOST_DARK


def run_dark(book, settings, x):
    """Return the pair of the walk and the remedy, or None, of one who finds them dark."""
    rig, _ = made_book(book)
    check_settings(rig, settings)
    check_fault(rig, x)
    finder = Finder(book, settings, x)
    remedy = least_remedy(rig, finder.lot)
    while remedy is None:
        steps = finder.way_to_look()
        if steps is None:
            return tuple(finder.steps), None
        for g in steps[1:]:
            finder.come_to(g)
        remedy = least_remedy(rig, finder.lot)
    return tuple(finder.steps), remedy


class Finder:
    """Goes through a rig without knowing which settings are dark, and finds it out."""

    def __init__(self, book, settings, x):
        # In this book just those settings are dark of which it has been found out.
        self.found_book = book
        self.ground = Ground(book)
        self.dark = settings
        self.x = x
        self.lot = every_fault(self.ground.rig)
        self.steps = []
        self.come_to(HOME)

    def come_to(self, g):
        """Stand at the setting, and see its sign or that it is dark."""
        self.steps.append(g)
        if g in self.dark:
            self.found_book = with_dark(self.found_book, (g,))
        rig, _ = self.found_book
        self.lot = agreeing_at(rig, self.lot, self.x, (g,))

    def way_to_look(self):
        """Return the way to the nearest setting that may part what is possible, or None."""
        rig, _ = self.found_book
        return way_to_part(rig, self.ground.joined(self.lot), self.lot, self.steps[-1])
