"""Trees: codes whose branches hold what they lead to, instead of its number.

A tree is ("cure", way, remedy) or ("look", way, pairs of a sign and a tree).
"""


def code_of_tree(tree):
    """Return the code of a tree: joined, then flat."""
    numbers = {}
    put_rows(joined_tree(tree), numbers)
    # A dict keeps the order in which its keys were put in.
    return tuple(numbers)


def joined_tree(tree):
    """Return the tree without looks all of whose branches lead to equal trees."""
    kind, way, rest = tree
    if kind == "cure":
        return tree
    branches = tuple([(sign, joined_tree(below)) for sign, below in rest])
    only = branches[0][1]
    if any([below != only for _, below in branches]):
        return kind, way, branches
    kind, further, rest = only
    return kind, way + further, rest


def put_rows(tree, numbers):
    """Put the rows of a tree to a dict of their numbers, and return that of the last."""
    kind, way, rest = tree
    if kind == "look":
        rest = tuple([(sign, put_rows(below, numbers)) for sign, below in rest])
    return numbers.setdefault((kind, way, rest), len(numbers))
