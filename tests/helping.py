"""What the tests share: strict comparing, samples, and plain reckonings."""

import itertools
import random
import unittest

from waryrig.checker import right
from waryrig.compiler import code_of
from waryrig.ends import home
from waryrig.errors import BadBook, BadFault, BadNamed, BadRig
from waryrig.free import free
from waryrig.lots import agreeing, all_faults
from waryrig.rigs import neighbours
from waryrig.solver import code_for

CURES = ((0,), (1,), (2,))
SIGNS = ((0, 0, 0), (0, 0, 1), (0, 1, 0))
MOVES = ((0, 1), (0, 2))

# The rig and the book of the example that stands behind [14].
RIG = (3, 3, CURES, SIGNS, MOVES)
BARS = ((), ((2,),))
BOOK = (RIG, BARS)
# The second book of [45].
LOST = ((2, 2, ((0,), (1,)), ((0, 0), (0, 1), (0, 0)), ((0, 1), (0, 2))), ((), ((0, 1),)))

# What is none of the numbers that are due anywhere.
NO_NUMBERS = (True, False, None, "0", (), (0,))
# What is no tuple.
NO_TUPLES = (None, 0, 3, True, False, "", "abc")
# What is no lot of the rig above.
NO_LOTS = NO_TUPLES + (
    (1, 0), (0, 0), (1, 1), (0, 2, 1), (3,), (-1,), (0, 3), (-1, 0), (0, 1, 2, 3),
    (True,), (False,), (0, True), (False, 1), ("0",), (None,), ((0,),), ((),),
)
# What is no rig, and the place that is told of it.
NO_RIGS = (((), (-1,)), (None, (-1,)), ((0,) + RIG[1:], (0,)), (RIG[:4] + (((0, 3),),), (4, 0)))
# What is no book, and the error that is raised of it.
WRONG_BOOKS = (
    (None, BadBook, -1), ((), BadBook, -1), (RIG, BadBook, -1), (BOOK + ((),), BadBook, -1),
    ((RIG, ()), BadBook, -2), ((RIG, ((), ((2,),), ())), BadBook, -2), ((RIG, None), BadBook, -2),
    ((RIG, ((), None)), BadBook, 1), ((RIG, (((),), ())), BadBook, 0),
    ((RIG, ((), ((True,),))), BadBook, 1), ((RIG, ((), ((2,), (0,)))), BadBook, 1),
) + tuple(((thing, ((), ())), BadRig, where) for thing, where in NO_RIGS)
# What is no fault, setting or move of the rig above: it has three of the
# first two, and two of the last.
NOT_BELOW_THREE = NO_NUMBERS + (3, -1, 4, 10 ** 30, -10 ** 30)
NOT_BELOW_TWO = NOT_BELOW_THREE + (2,)

# What is no start in the rig above.
NO_STARTS = NO_TUPLES + (
    (), ((0,),), ((0,), 0, 0), (0, (0,)), (0, 0), ((), 0), ((), 9), ((0,), 3), ((0,), -1),
    ((0,), True), ((0,), False), ((0,), None), ((0,), "0"), ((0,), (0,)), ((0, 1, 2), 10 ** 30),
    "ab", ((0,), ()), (((0,),), 0),
) + tuple((lot, 0) for lot in NO_LOTS)
# What is no walk in the rig above, and what is told of it.
NO_WALKS = tuple((thing, -1) for thing in NO_TUPLES) + (
    ((), -1), ((0, 1) * 1000 + (0,), -1), ((0,) * 2001, -1), ((9,) * 2001, -1),
    ((1,), 0), ((2, 0, 1), 0), ((3,), 0), ((-1,), 0), ((False,), 0), ((None,), 0), (("0",), 0),
    (((0,),), 0), (((),), 0), ((True, 0), 0),
    ((0, 3), 1), ((0, -1), 1), ((0, True), 1), ((0, 1, False), 2), ((0, None), 1), ((0, "1"), 1),
    ((0, (1,)), 1), ((0, 10 ** 30), 1),
    ((0, 0), 1), ((0, 1, 1), 2), ((0, 2, 0, 0), 3),
    ((0, 1, 2), 2), ((0, 2, 1), 2), ((0, 1, 0, 2, 1, 0), 4), ((0, 1) * 999 + (0, 0), 1999),
    ((0, 0, 9), 1), ((0, 1, 2, 9), 2),
)
# What is no entry of a journal and no look in the rig above.
NO_ENTRIES = NO_TUPLES + (
    (), (0,), (0, 0, 0), ((0, 0),), ((), ()), (3, 0), (-1, 0), (0, 10), (0, -1), (10 ** 30, 0),
    (0, 10 ** 30), (True, 0), (False, 0), (0, True), (0, False), (None, 0), (0, None), ("0", 0),
    (0, "0"), ((0,), 0), (0, (0,)), ("see", 0), (0, ()),
)
# What are no cuts, and what is told of them.
NO_CUTS = tuple((thing, -1) for thing in NO_TUPLES) + (
    ((0,) * 21, -1), ((None,) * 21, -1), ((-1,), 0), ((5001,), 0), ((True,), 0), ((False,), 0),
    ((None,), 0), (("0",), 0), (((0,),), 0), (((),), 0), ((0, 5000, 5001), 2), ((3, True), 1),
    ((0,) * 19 + (-1,), 19), ((10 ** 30, -1), 0),
)
# The program of the example in [35].
PROGRAM = (("go", 1), ("if", ("sign", 1), (("cure", 2),), (
    ("go", 0), ("go", 2), ("if", ("sign", 1), (("cure", 1),), (("cure", 0),)))))
# What is no program of the rig above, and what is told of it.
NO_PROGRAMS = tuple((thing, (-1,)) for thing in NO_TUPLES) + (
    ((("cure", 0),) * 201, (-1,)), ((None,) * 201, (-1,)), ((None,), (0,)), (("go", 1), (0,)),
    ((("go", 1), ("go", 3)), (1,)), ((("cure", 3),), (0,)),
    ((("times", 2, (("go", 0), ("if", ("flag", 8), (), ()))),), (0, 0, 1)),
)
# The code of the example in [21].
CODE = (
    ("cure", (), 0), ("cure", (), 1), ("look", (0, 2), ((0, 0), (1, 1))), ("cure", (), 2),
    ("look", (1,), ((0, 2), (1, 3))),
)
CURE = ("cure", (), 0)
# What is no row behind one other in a code for the rig above.
NO_ROWS = NO_TUPLES + (
    (), ("cure",), ("cure", ()), ("cure", (), 0, 0), ("look", ()), ("look", (), ((0, 0),), 0),
    ("other", (), 0), ("other", (), ((0, 0),)), ("", (), 0), (None, (), 0), (0, (), 0),
    ((), (), 0), ("Cure", (), 0), (True, (), ((0, 0),)), ("cur", (), 0), "abc",
    ("cure", (), 3), ("cure", (), -1), ("cure", (), True), ("cure", (), False), ("cure", (), None),
    ("cure", (), "0"), ("cure", (), ()), ("cure", (), ((0, 0),)), ("look", (), 0),
    ("cure", None, 0), ("cure", 0, 0), ("cure", "", 0), ("cure", (3,), 0), ("cure", (0, -1), 0),
    ("cure", (True,), 0), ("cure", (0, False), 0), ("cure", (None,), 0), ("cure", ("0",), 0),
    ("cure", ((0,),), 0), ("cure", (0,) * 2001, 0), ("cure", (9,) * 2001, 0),
    ("look", None, ((0, 0),)), ("look", (3,), ((0, 0),)), ("look", (False,), ((0, 0),)),
    ("look", (0,) * 2001, ((0, 0),)),
    ("look", (), None), ("look", (), ()), ("look", (), "ab"), ("look", (), (0, 0)),
    ("look", (), (None,)), ("look", (), ((),)), ("look", (), ((0,),)), ("look", (), ((0, 0, 0),)),
    ("look", (), ((0, 0), (1,))), ("look", (), ("ab",)),
    ("look", (), ((10, 0),)), ("look", (), ((-1, 0),)), ("look", (), ((True, 0),)),
    ("look", (), ((False, 0),)), ("look", (), ((None, 0),)), ("look", (), (("0", 0),)),
    ("look", (), ((0, 0), (10, 0))), ("look", (), ((0, 0), (True, 0))),
    ("look", (), ((0, 0), (0, 0))), ("look", (), ((1, 0), (0, 0))),
    ("look", (), ((0, 0), (2, 0), (1, 0))),
    ("look", (), tuple((sign, 0) for sign in range(11))),
    ("look", (), ((0, 1),)), ("look", (), ((0, 2),)), ("look", (), ((0, -1),)),
    ("look", (), ((0, False),)), ("look", (), ((0, True),)), ("look", (), ((0, None),)),
    ("look", (), ((0, "0"),)), ("look", (), ((0, 0), (1, 1))), ("look", (), ((0, 0), (1, 9))),
    ("look", (), ((0, (0,)),)),
)
# What is no code for the rig above, and what is told of it.
NO_CODES = tuple((thing, -1) for thing in NO_TUPLES) + (
    ((), -1), ((CURE,) * 2001, -1), ((None,) * 2001, -1), ((None,), 0), (CURE, 0),
    (("look", (), ((0, 0),)), 0), ((("look", (), ((0, 0),)),), 0), ((CURE, None, None), 1),
) + tuple(((CURE, row), 1) for row in NO_ROWS)

# The named rig of the example in [65].
NAMES = (("f", "w"), ("fuse", "wire"), ("home", "far"), ("no", "yes"))
NAMED = ((2, 2, ((0,), (0, 1)), ((0, 0), (0, 1)), ((0, 1),)), NAMES)
# What is no named rig, and the error that is raised of it.
WRONG_NAMED = tuple((thing, BadNamed, -1) for thing in NO_TUPLES) + (
    ((), BadNamed, -1), (NAMED[0], BadNamed, -1), (NAMED + ((),), BadNamed, -1),
    ((NAMED[0], NAMES[:3]), BadNamed, -1), ((None, NAMES + ((),)), BadNamed, -1),
    ((NAMED[0], None), BadNamed, -1), ((None, NAMES), BadRig, (-1,)),
    (((0,) + NAMED[0][1:], (None,) * 4), BadRig, (0,)),
    ((NAMED[0], (None,) * 4), BadNamed, 0), ((NAMED[0], (("f", "f"),) + (None,) * 3), BadNamed, 0),
    ((NAMED[0], NAMES[:1] + ((),) * 3), BadNamed, 1),
    ((NAMED[0], NAMES[:2] + (("home", "Far"), ("no",))), BadNamed, 2),
    ((NAMED[0], NAMES[:3] + (("no",),)), BadNamed, 3),
)
# The text of that rig.
RIG_TEXT = (
    "signs no yes; remedies fuse wire; fault f: fuse; fault w: fuse wire; "
    "setting home: no no; setting far: no yes; move home - far;")


def nested(deep):
    """Return tuples nested so deep."""
    thing = ()
    for _ in range(deep - 1):
        thing = (thing,)
    return thing


# What a judge must be able to look at.
ANYTHING = NO_TUPLES + (
    (), (0,), (0, 1), (0, 1, 2), (0,) * 5, ((),) * 5, (None,) * 5, ("a",) * 5,
    ("a", "b", "c", "d", "e"), nested(80), (nested(79), nested(79)), (nested(79),) * 5,
    (0,) * 19999, (10 ** 999, -10 ** 999),
)


def replaced(row, index, part):
    """Return the tuple with another part at an index."""
    return row[:index] + (part,) + row[index + 1:]


def greatest_rig():
    """Return a rig with as many of all as are let."""
    pairs = tuple(itertools.combinations(range(40), 2))
    signs = tuple(tuple((x * g) % 10 for x in range(24)) for g in range(40))
    return (24, 16, (tuple(range(16)),) * 24, signs, pairs[:200])


def many_lots(many):
    """Return so many lots of one to three of 24 faults, ascending."""
    lots = []
    for size in (1, 2, 3):
        lots.extend(itertools.combinations(range(24), size))
    return tuple(sorted(lots[:many]))


def longest_book():
    """Return a book with as many of all as are let, in which trips tell little each time.

    The trip of each number comes to the setting of this number as well, and rules
    out the greatest fault that is left.
    """
    pairs = list(itertools.combinations(range(24), 2))[:100]
    moves = tuple(pairs + list(itertools.combinations(range(24, 40), 2))[:100])
    signs = tuple((0,) * (24 - g) + (1,) + (0,) * (g - 1) for g in range(1, 24))
    signs = ((0,) * 24,) + signs + tuple((x,) * 24 for x in range(10)) + ((0,) * 24,) * 6
    triples = list(itertools.combinations(range(24), 3))
    bars = []
    for _, g in moves:
        if 1 < g < 24:
            lots = [(25 - g,)] + [lot for lot in triples if 25 - g in lot]
            bars.append(tuple(sorted(lots[:200])))
        elif g == 1:
            bars.append(())
        else:
            bars.append(many_lots(200))
    return ((24, 16, tuple((x % 16,) for x in range(24)), signs, moves), tuple(bars))


def random_book(chance, odds=0.6):
    """Return a small book, made from what random.Random tells.

    The odds are those by which a remedy cures a fault.
    """
    n = chance.randint(1, 5)
    settings = chance.randint(1, 7)
    pairs = list(itertools.combinations(range(settings), 2))
    moves = tuple(sorted(chance.sample(pairs, chance.randint(0, min(len(pairs), 10)))))
    signs = tuple(tuple(chance.randint(0, 2) for _ in range(n)) for _ in range(settings))
    cures = tuple(random_lot(chance, 3, odds) for _ in range(n))
    lots = [lot for size in (1, 2, 3) for lot in itertools.combinations(range(n), size)]
    bars = tuple(
        tuple(sorted(chance.sample(lots, chance.randint(0, min(2, len(lots)))))) for _ in moves
    )
    return ((n, 3, cures, signs, moves), bars)


def random_books(many, seed, odds=0.6):
    """Return so many small books, the same ones each time."""
    chance = random.Random(seed)
    return [random_book(chance, odds) for _ in range(many)]


def random_starts(many, seed, odds=0.6):
    """Return so many pairs of a small book and a start in it, the same ones each time."""
    chance = random.Random(seed)
    found = []
    for book in random_books(many, seed + 1, odds):
        n = book[0][0]
        found.append((book, (chance.choice(lots_of(n)[1:]), chance.randrange(len(book[0][3])))))
    return found


def random_lot(chance, n, odds=0.6):
    """Return a lot of some of n faults, perhaps of none."""
    return tuple(x for x in range(n) if chance.random() < odds)


def lots_of(n):
    """Return all lots of n faults."""
    return [lot for size in range(n + 1) for lot in itertools.combinations(range(n), size)]


def plainly_joined(tree):
    """Join the tree as [19] says."""
    if tree[0] == "cure":
        return tree
    below = [(sign, plainly_joined(one)) for sign, one in tree[2]]
    first = below[0][1]
    if all(one == first for _, one in below):
        return [first[0], tree[1] + first[1], first[2]]
    return ["look", tree[1], below]


def plainly_flat(tree, rows):
    """Put the tree to the rows as [20] says, and return its number."""
    kind, steps, rest = tree
    if kind == "look":
        rest = tuple((sign, plainly_flat(one, rows)) for sign, one in rest)
    if (kind, steps, rest) not in rows:
        rows.append((kind, steps, rest))
    return rows.index((kind, steps, rest))


def some_way(chance, rig, here):
    """Return a way that mostly goes where moves lead."""
    steps = ()
    for _ in range(chance.randint(0, 3)):
        near = [there for pair in rig[4] for there in pair if here in pair and there != here]
        if chance.random() < 0.1 or not near:
            near = range(len(rig[3]))
        here = chance.choice(near)
        steps += (here,)
    return steps


def some_code(chance, rig):
    """Return a code for the rig, whatever it does."""
    rows = []
    for number in range(chance.randint(1, 6)):
        steps = some_way(chance, rig, chance.choice((0, 0, chance.randrange(len(rig[3])))))
        signs = random_lot(chance, 3) or (0,)
        branches = tuple((sign, chance.randrange(number or 1)) for sign in signs)
        if number == 0 or chance.random() < 0.4:
            rows.append(("cure", steps, chance.randrange(rig[1])))
        else:
            rows.append(("look", steps, branches))
    return tuple(rows)


def some_test(chance, deep):
    """Return a T that is at most so deep."""
    kind = chance.choice(("sign", "flag", "not", "and", "or"))
    if deep == 1 or kind in ("sign", "flag"):
        return chance.choice((("sign", chance.randint(0, 2)), ("flag", chance.randint(0, 2))))
    parts = 1 if kind == "not" else 2
    return (kind,) + tuple(some_test(chance, deep - 1) for _ in range(parts))


def some_body(chance, rig, deep, here=0):
    """Return a body that lies so deep, and mostly goes where moves lead."""
    statements = []
    for _ in range(chance.randint(0, 4)):
        kind = chance.choice(("go", "go", "go", "go", "set", "if", "if", "times", "cure"))
        if kind == "go":
            near = [there for pair in rig[4] for there in pair if here in pair and there != here]
            if chance.random() < 0.05 or not near:
                near = range(len(rig[3]))
            here = chance.choice(near)
            statements.append(("go", here))
        elif kind == "set":
            statements.append(("set", chance.randint(0, 2), chance.randint(0, 1)))
        elif kind == "if" and deep < 4:
            bodies = (some_body(chance, rig, deep + 1, here), some_body(chance, rig, deep + 1, here))
            statements.append(("if", some_test(chance, 4)) + bodies)
        elif kind == "times" and deep < 4:
            body = some_body(chance, rig, deep + 1, here)
            statements.append(("times", chance.randint(1, 3), body))
        elif chance.random() < 0.4:
            statements.append(("cure", chance.randrange(rig[1])))
    return tuple(statements)


def greatest_named():
    """Return the greatest rig with names that are as long as can be, and alike in all sorts."""
    rig = greatest_rig()
    names = tuple("abcdefghij%02d" % number for number in range(40))
    return rig, (names[:24], names[:16], names, names[:10])


def some_names(chance, many):
    """Return so many unlike names."""
    found = []
    while len(found) < many:
        name = chance.choice("abcxyz") + "".join(
            chance.choice("abz019") for _ in range(chance.choice((0, 1, 2, 11))))
        if name not in found:
            found.append(name)
    return tuple(found)


def some_named(chance, odds=0.6):
    """Return a small named rig, and a book of its rig."""
    book = random_book(chance, odds)
    n, q, _, signs, _ = book[0]
    least = max(max(row) for row in signs) + 1
    sizes = (n, q, len(signs), chance.randint(least, 4))
    return (book[0], tuple(some_names(chance, many) for many in sizes)), book


def right_codes(chance, book):
    """Return some codes that are right from home: the told one, and those of some programs."""
    codes = [code_for(book, home(book[0]))]
    for _ in range(4):
        program = some_body(chance, book[0], 1) + (("cure", chance.randrange(book[0][1])),)
        if right(book, program):
            codes.append(code_of(book, program))
    return [code for code in codes if code is not None]


def deeds_of(rig, code, here, x):
    """Go through the deeds of a run of a code that is right."""
    row = code[-1]
    yield ("see", here, rig[3][here][x])
    while True:
        for here in row[1]:
            yield ("go", here)
            yield ("see", here, rig[3][here][x])
        if row[0] == "cure":
            yield row[::2]
            return
        row = code[dict(row[2])[rig[3][here][x]]]


def plain_cut(book, code, x, cuts, go_on):
    """Reckon a run with cuts as its words say, deed by deed.

    Behind a cut go_on tells the start from the setting and the journal, and the
    journal that is left. Of each go the moment is told, too: the walk and the
    journal ahead of it.
    """
    walk, journal, gone = (0,), (), []
    cuts = list(cuts)
    while True:
        cut = cuts.pop(0) if cuts else None
        for done, deed in enumerate(deeds_of(book[0], code, walk[-1], x)):
            if done == cut:
                break
            if deed[0] == "see":
                journal += (deed[1:],)
            elif deed[0] == "go":
                gone.append((walk, journal, deed[1]))
                walk += deed[1:]
            else:
                return (walk, deed[1], journal), gone
        start, journal = go_on(walk[-1], journal)
        code = code_for(book, start)
        if code is None:
            return (walk, None, journal), gone


def reached(book, x):
    """Return all pairs of a setting and a knowledge to which walks that are safe under x come."""
    rig = book[0]
    first = (0, agreeing(rig, all_faults(rig), x, (0,)))
    found = {first}
    edge = [first]
    while edge:
        here, known = edge.pop()
        for there, move in neighbours(rig, here):
            state = (there, agreeing(rig, known, x, (there,)))
            if free(book, known, move) and state not in found:
                found.add(state)
                edge.append(state)
    return found


class Strict(unittest.TestCase):
    """Compares so that True and 1, or a tuple and a list, are not the same."""

    def same(self, found, due):
        self.assertEqual(repr(found), repr(due))

    def refused(self, kind, what, call, *given, **named):
        with self.assertRaises(kind) as caught:
            call(*given, **named)
        self.assertIs(type(caught.exception), kind)
        self.same(caught.exception.what, what)

    def refuses_wrong_books(self, call, *behind):
        """See that the call refuses what is no book, whatever stands behind it."""
        for thing, kind, what in WRONG_BOOKS:
            self.refused(kind, what, call, thing, *behind)

    def refuses_wrong_named(self, call, *behind):
        """See that the call refuses what is no named rig, whatever stands behind it."""
        for thing, kind, what in WRONG_NAMED:
            self.refused(kind, what, call, thing, *behind)

    def refuses_wrong_faults(self, call, ahead, behind=()):
        """See that the call refuses what is no fault of the sample rig, likewise."""
        for x in NOT_BELOW_THREE:
            self.refused(BadFault, x, call, *ahead, x, *behind)
