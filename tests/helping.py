"""What the tests share: strict comparing, samples, and plain reckonings."""

import itertools
import random
import unittest

CURES = ((0,), (1,), (2,))
SIGNS = ((0, 0, 0), (0, 0, 1), (0, 1, 0))
MOVES = ((0, 1), (0, 2))

# The rig and the book of the example that stands behind [14].
RIG = (3, 3, CURES, SIGNS, MOVES)
BARS = ((), ((2,),))
BOOK = (RIG, BARS)

# What is none of the numbers that are due anywhere.
NO_NUMBERS = (True, False, None, "0", (), (0,))
# What is no tuple.
NO_TUPLES = (None, 0, 3, True, False, "", "abc")
# What is no lot of the rig above.
NO_LOTS = NO_TUPLES + (
    (1, 0), (0, 0), (1, 1), (0, 2, 1), (3,), (-1,), (0, 3), (-1, 0), (0, 1, 2, 3),
    (True,), (False,), (0, True), (False, 1), ("0",), (None,), ((0,),), ((),),
)
# What is no rig, and the place that is told of it.
NO_RIGS = (((), (-1,)), (None, (-1,)), ((0,) + RIG[1:], (0,)), (RIG[:4] + (((0, 3),),), (4, 0)))
# What is no fault, setting or move of the rig above: it has three of the
# first two, and two of the last.
NOT_BELOW_THREE = NO_NUMBERS + (3, -1, 4, 10 ** 30, -10 ** 30)
NOT_BELOW_TWO = NOT_BELOW_THREE + (2,)


def nested(deep):
    """Return tuples nested so deep."""
    thing = ()
    for _ in range(deep - 1):
        thing = (thing,)
    return thing


# What a judge must be able to look at.
ANYTHING = NO_TUPLES + (
    (), (0,), (0, 1), (0, 1, 2), (0,) * 5, ((),) * 5, (None,) * 5, ("a",) * 5,
    ("a", "b", "c", "d", "e"), nested(80), (nested(79), nested(79)), (nested(79),) * 5,
    (0,) * 19999, (10 ** 999, -10 ** 999),
)


def replaced(row, index, part):
    """Return the tuple with another part at an index."""
    return row[:index] + (part,) + row[index + 1:]


def greatest_rig():
    """Return a rig with as many of all as are let."""
    pairs = tuple(itertools.combinations(range(40), 2))
    signs = tuple(tuple((x * g) % 10 for x in range(24)) for g in range(40))
    return (24, 16, (tuple(range(16)),) * 24, signs, pairs[:200])


def many_lots(many):
    """Return so many lots of one to three of 24 faults, ascending."""
    lots = []
    for size in (1, 2, 3):
        lots.extend(itertools.combinations(range(24), size))
    return tuple(sorted(lots[:many]))


def random_book(chance):
    """Return a small book, made from what random.Random tells."""
    n = chance.randint(1, 5)
    settings = chance.randint(1, 7)
    pairs = list(itertools.combinations(range(settings), 2))
    moves = tuple(sorted(chance.sample(pairs, chance.randint(0, min(len(pairs), 10)))))
    signs = tuple(tuple(chance.randint(0, 2) for _ in range(n)) for _ in range(settings))
    cures = tuple(random_lot(chance, 3) for _ in range(n))
    lots = [lot for size in (1, 2, 3) for lot in itertools.combinations(range(n), size)]
    bars = tuple(
        tuple(sorted(chance.sample(lots, chance.randint(0, min(2, len(lots)))))) for _ in moves
    )
    return ((n, 3, cures, signs, moves), bars)


def random_books(many, seed):
    """Return so many small books, the same ones each time."""
    chance = random.Random(seed)
    return [random_book(chance) for _ in range(many)]


def random_lot(chance, n):
    """Return a lot of some of n faults, perhaps of none."""
    return tuple(x for x in range(n) if chance.random() < 0.6)


def lots_of(n):
    """Return all lots of n faults."""
    return [lot for size in range(n + 1) for lot in itertools.combinations(range(n), size)]


class Strict(unittest.TestCase):
    """Compares so that True and 1, or a tuple and a list, are not the same."""

    def same(self, found, due):
        self.assertEqual(repr(found), repr(due))

    def refused(self, kind, what, call, *given, **named):
        with self.assertRaises(kind) as caught:
            call(*given, **named)
        self.assertIs(type(caught.exception), kind)
        self.same(caught.exception.what, what)
