"""The told code: it parts what is possible, look by look, until one remedy is left."""

from waryrig.books import made_book
from waryrig.ends import check_start, from_home
from waryrig.ground import Ground
from waryrig.lots import has_parts, least_remedy, parts_at
from waryrig.regions import distances, least_way
from waryrig.trees import code_of_tree


def code_for(book, start):
    """Return the code that is told from a start, or None."""
    rig, _ = made_book(book)
    check_start(rig, start)
    return told_code(Ground(book), start)


def told_code(ground, start):
    """Do what code_for does, of what is checked already."""
    tree = tree_at(ground, start)
    if tree is None:
        return None
    return code_of_tree(tree)


def solvable(book):
    """Return whether a code is told from home."""
    made_book(book)
    return has_code(book)


def has_code(book):
    """Do what solvable does, of what is checked already."""
    rig, _ = book
    return tree_at(Ground(book), from_home(rig)) is not None


def tree_at(ground, start):
    """Return the tree for what is possible, and where one stands, or None."""
    lot, g = start
    if has_parts(ground.rig, lot, g):
        return look_after(ground, lot, (g,))
    remedy = least_remedy(ground.rig, lot)
    if remedy is not None:
        return "cure", (), remedy
    steps = way_to_part(ground.rig, ground.joined(lot), lot, g)
    if steps is None:
        return None
    return look_after(ground, lot, steps)


def look_after(ground, lot, steps):
    """Return the tree that looks at the last of the steps, or None."""
    branches = []
    for sign, part in parts_at(ground.rig, lot, steps[-1]):
        below = tree_at(ground, (part, steps[-1]))
        if below is None:
            return None
        branches.append((sign, below))
    return "look", steps[1:], tuple(branches)


def way_to_part(rig, joined, lot, g):
    """Return the way from g to the nearest setting that parts the lot, or None."""
    away = distances(joined, g)
    parting_ones = [(away[h], h) for h in away if has_parts(rig, lot, h)]
    if not parting_ones:
        return None
    _, nearest = min(parting_ones)
    return least_way(joined, g, nearest)
