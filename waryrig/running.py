"""What a program does under a fault."""

from waryrig.books import made_book
from waryrig.ends import from_home
from waryrig.programs import FLAGS, bodies_of, check_program
from waryrig.rigs import check_fault
from waryrig.walker import Walker
from waryrig.walks import MOST_OF_WALK


def run(book, program, x):
    """Return the outcome of the program under x: the pair (walk, last)."""
    rig, _ = made_book(book)
    check_program(rig, program)
    check_fault(rig, x)
    return outcome_of(book, program, x)


def outcome_of(book, program, x):
    """Do what run does, of what is checked already."""
    runner = Runner(book, x)
    last = runner.do_body(program, ())
    if last is None:
        last = ("end",)
    return runner.walker.walk(), last


class Runner:
    """Does the statements of a program, from home on.

    Each method that does something returns what ends the run, None if it goes on.
    """

    def __init__(self, book, x):
        rig, _ = book
        self.walker = Walker(book, from_home(rig), x)
        self.flags = [0] * FLAGS

    def do_body(self, body, place):
        """Do the statements of the body that stands at this place."""
        for index, statement in enumerate(body):
            last = self.do_statement(statement, (*place, index))
            if last is not None:
                return last
        return None

    def do_statement(self, statement, place):
        """Do the statement that stands at this place."""
        kind = statement[0]
        if kind == "cure":
            return statement
        if kind == "go":
            return self.go_to(statement[1], place)
        if kind == "if":
            return self.do_branch(statement, place)
        if kind == "times":
            return self.do_times(statement, place)
        _, number, worth = statement
        self.flags[number] = worth
        return None

    def go_to(self, g, place):
        """Go to the setting, unless something keeps one from it."""
        move = self.walker.move_to(g)
        if move is None:
            return "nomove", place
        lot = self.walker.bar_of(move)
        if lot is not None:
            return "barred", place, lot
        if len(self.walker.steps) >= MOST_OF_WALK:
            return "long", place
        self.walker.come_to(g)
        return None

    def do_branch(self, statement, place):
        """Do the body of an if that its T tells."""
        number = 1
        if self.holds(statement[1]):
            number = 0
        return self.do_body(bodies_of(statement)[number], (*place, number))

    def do_times(self, statement, place):
        """Do the body of a times as often as it says."""
        _, many, body = statement
        for _ in range(many):
            before = self.all_that_counts()
            last = self.do_body(body, (*place, 0))
            if last is not None:
                return last
            # It would do the same each further time: nothing.
            if self.all_that_counts() == before:
                return None
        return None

    def all_that_counts(self):
        """Return what all that is still to be done hangs on."""
        return len(self.walker.steps), list(self.flags)

    def holds(self, test):
        """Tell whether the T holds here and now."""
        kind = test[0]
        if kind == "sign":
            return self.walker.sign() == test[1]
        if kind == "flag":
            return self.flags[test[1]] == 1
        if kind == "not":
            return not self.holds(test[1])
        if kind == "and":
            return self.holds(test[1]) and self.holds(test[2])
        return self.holds(test[1]) or self.holds(test[2])
