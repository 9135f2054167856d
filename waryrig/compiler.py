"""From programs to codes, and from codes to programs."""

from waryrig.books import made_book
from waryrig.checker import first_wrong, outcomes
from waryrig.codes import check_code
from waryrig.errors import NotRight, TooDeep, TooMany
from waryrig.lots import every_fault, has_parts, parts_at
from waryrig.programs import DEEPEST_BODY, MOST_OF_BODY, MOST_STATEMENTS, check_program
from waryrig.rigs import made_rig
from waryrig.trees import code_of_tree


def code_of(book, program):
    """Return the code of a right program, made of its walks and cures alone."""
    rig, _ = made_book(book)
    check_program(rig, program)
    found = outcomes(book, program)
    wrong = first_wrong(rig, found)
    if wrong is not None:
        raise NotRight(wrong)
    return code_of_tree(tree_of_runs(rig, found, every_fault(rig), 0))


def tree_of_runs(rig, found, lot, at):
    """Return the tree for a lot whose runs have been alike up to a place of their walks.

    What is found are the outcomes under all faults.
    """
    # They go on alike until their signs are unlike, so any of them shows the way.
    walk, last = found[lot[0]]
    for index in range(at, len(walk)):
        if has_parts(rig, lot, walk[index]):
            parts = parts_at(rig, lot, walk[index])
            branches = [(sign, tree_of_runs(rig, found, part, index)) for sign, part in parts]
            return "look", walk[at + 1:index + 1], tuple(branches)
    return "cure", walk[at + 1:], last[1]


def program_of(rig, code):
    """Return a program that does what the code does from home."""
    made_rig(rig)
    check_code(rig, code)
    return Telling(code).body_of(len(code) - 1, 1)


class Telling:
    """Tells rows of a code by statements, and counts these in the order of the text."""

    def __init__(self, code):
        self.code = code
        self.told = 0

    def body_of(self, number, deep):
        """Return the body that the row of this number is told by, lying so deep."""
        if deep > DEEPEST_BODY:
            raise TooDeep(DEEPEST_BODY + 1)
        body = []
        while True:
            kind, way, rest = self.code[number]
            for g in way:
                self.put(body, ("go", g))
            if kind == "cure":
                self.put(body, ("cure", rest))
                return tuple(body)
            if len(rest) > 1:
                self.count_one(len(body))
                body.append(self.choice(rest, deep))
                return tuple(body)
            # There may be more looks with one branch behind one another than
            # calls within one another are let.
            number = rest[0][1]

    def choice(self, branches, deep):
        """Return the if that asks for the first branch, standing in a body so deep."""
        (sign, number), *others = branches
        first = self.body_of(number, deep + 1)
        if len(others) == 1:
            second = self.body_of(others[0][1], deep + 1)
        else:
            self.count_one(0)
            second = (self.choice(others, deep + 1),)
        return "if", ("sign", sign), first, second

    def put(self, body, statement):
        """Put a statement without bodies to a body."""
        self.count_one(len(body))
        body.append(statement)

    def count_one(self, ahead):
        """Count a statement with so many ahead of it in its body."""
        self.told += 1
        if self.told > MOST_STATEMENTS:
            raise TooMany(MOST_STATEMENTS + 1)
        if ahead >= MOST_OF_BODY:
            raise TooMany(MOST_OF_BODY + 1)
