"""Runs of codes with cuts of power, behind which a journal is read."""

from waryrig.books import made_book
from waryrig.codes import check_code, cures_all, run_rows
from waryrig.ends import from_home
from waryrig.errors import BadCuts, NotRight
from waryrig.forms import is_from, is_tuple_of
from waryrig.ground import Ground
from waryrig.journal import left_by
from waryrig.lots import every_fault
from waryrig.rigs import HOME, SIGNS, check_fault
from waryrig.solver import told_code

MOST_CUTS = 20
MOST_DEEDS = 5000


def run_cut(book, code, x, cuts):
    """Return the triple of the walk, the remedy and the journal of a run with cuts."""
    check_run_with_cuts(book, code, x, cuts)
    machine = Machine(book, x)
    machine.run(code, cuts)
    return machine.outcome()


def check_run_with_cuts(book, code, x, cuts):
    """Check all that a run with cuts is told by."""
    rig, _ = made_book(book)
    check_code(rig, code)
    check_fault(rig, x)
    check_cuts(cuts)
    if not cures_all(book, code, from_home(rig)):
        raise NotRight(0)


def check_cuts(cuts):
    """Raise BadCuts unless these are cuts."""
    if not is_tuple_of(cuts, 0, MOST_CUTS):
        raise BadCuts(-1)
    for index, cut in enumerate(cuts):
        if not is_from(cut, 0, MOST_DEEDS):
            raise BadCuts(index)


class Machine:
    """Runs codes from home on, under a fault, and keeps what a cut leaves."""

    def __init__(self, book, x):
        self.whole_book = book
        self.ground = Ground(book)
        self.x = x
        self.steps = [HOME]
        self.entries = []
        self.remedy = None

    def run(self, code, cuts):
        """Run the code, and behind each cut the one that is told then, if there is one."""
        start = from_home(self.ground.rig)
        for cut in cuts:
            self.do_deeds(code, start, cut)
            if self.remedy is not None:
                return
            start = self.start_behind_cut()
            code = told_code(self.ground, start)
            if code is None:
                return
        self.do_deeds(code, start, None)

    def do_deeds(self, code, start, cut):
        """Do what the code does from the start, but no more deeds than the cut says."""
        steps, last = run_rows(self.whole_book, code, start, self.x)
        # At each setting there is a see, and then a go to the next one or the cure.
        deeds = 2 * len(steps)
        if cut is None or cut >= deeds:
            self.remedy = last[1]
        else:
            deeds = cut
        row_of = self.ground.rig[SIGNS]
        seen = steps[:(deeds + 1) // 2]
        self.entries.extend([(g, row_of[g][self.x]) for g in seen])
        self.steps.extend(steps[1:deeds // 2 + 1])

    def start_behind_cut(self):
        """Return where one goes on from: what the journal leaves, where one stands."""
        rig = self.ground.rig
        return left_by(rig, every_fault(rig), self.entries), self.steps[-1]

    def outcome(self):
        """Return the walk, the remedy and the journal."""
        return tuple(self.steps), self.remedy, tuple(self.entries)
