"""The judges of papers: each looks at what it is shown, and searches nothing."""

from waryrig.books import made_book
from waryrig.ends import check_start, from_home
from waryrig.errors import Refused
from waryrig.forms import is_ascending, is_from, is_index, is_tuple_of
from waryrig.free import lies_within
from waryrig.lots import check_lot, common_remedies, has_parts
from waryrig.regions import region_at
from waryrig.rigs import CURES, FAULTS, HOME, MOVES, REMEDIES, SIGNS
from waryrig.walks import check_walk, first_not_free

MOST_DARK = 3


def stuck_right(book, start, lot):
    """Judge whether the lot shows that there is no code from the start."""
    try:
        rig, _ = made_book(book)
        check_start(rig, start)
        check_lot(rig, lot)
    except Refused:
        return False
    return is_stuck(book, start, lot)


def is_stuck(book, start, lot):
    """Do what stuck_right does, of what is checked already."""
    possible, g = start
    if not lies_within(lot, possible):
        return False
    return not is_done(book, lot) and shows_one_sign(book, lot, region_at(book, lot, g))


def is_done(book, lot):
    """Tell whether one remedy cures each fault of the lot."""
    rig, _ = book
    return len(common_remedies(rig, lot)) > 0


def shows_one_sign(book, lot, settings):
    """Tell whether all faults of the lot agree at each of the settings."""
    rig, _ = book
    for g in settings:
        if has_parts(rig, lot, g):
            return False
    return True


def chain_right(book, chain):
    """Judge whether the chain shows that as many trips are needed as it has lots."""
    try:
        rig, _ = made_book(book)
    except Refused:
        return False
    if not isinstance(chain, tuple):
        return False
    for lot in chain:
        if not is_ascending(lot, rig[FAULTS]):
            return False
    if chain == ():
        return True
    return not is_done(book, chain[0]) and all_hidden(book, chain)


def all_hidden(book, chain):
    """Tell whether each lot of the chain is greater, and shows nothing of the one ahead."""
    for lesser, greater in zip(chain, chain[1:]):
        if lesser == greater or not lies_within(lesser, greater):
            return False
        if not shows_one_sign(book, lesser, region_at(book, greater, HOME)):
            return False
    return True


def loss_right(book, paper):
    """Judge whether the paper shows a lot that nothing parts once all is lost."""
    try:
        rig, _ = made_book(book)
    except Refused:
        return False
    if not is_tuple_of(paper, 3, 3):
        return False
    g, lot, walks = paper
    if not is_index(g, len(rig[SIGNS])) or not is_ascending(lot, rig[FAULTS]):
        return False
    if is_done(book, lot) or not is_tuple_of(walks, len(lot), len(lot)):
        return False
    for x, walk in zip(lot, walks):
        if not leads_safely(book, x, walk, g):
            return False
    return shows_one_sign(book, lot, region_at(book, lot, g))


def leads_safely(book, x, thing, g):
    """Tell whether this is a walk that is safe under x, and ends at g."""
    rig, _ = book
    try:
        check_walk(rig, thing)
    except Refused:
        return False
    return thing[-1] == g and first_not_free(book, x, thing) is None


def dark_right(book, r, paper):
    """Judge whether the paper shows that the book is stuck with r settings dark."""
    try:
        rig, _ = made_book(book)
    except Refused:
        return False
    if not is_from(r, 0, MOST_DARK) or not is_tuple_of(paper, 2, 2):
        return False
    lot, settings = paper
    many = len(rig[SIGNS])
    if not is_ascending(lot, rig[FAULTS]) or not is_ascending(settings, many):
        return False
    if len(settings) != min(r, many):
        return False
    return is_stuck(with_dark(book, settings), from_home(rig), lot)


def with_dark(book, settings):
    """Return the book in which each fault shows 0 at each of the settings."""
    rig, bars = book
    nothing = (0,) * rig[FAULTS]
    signs = list(rig[SIGNS])
    for g in settings:
        signs[g] = nothing
    return (rig[FAULTS], rig[REMEDIES], rig[CURES], tuple(signs), rig[MOVES]), bars
