"""What is left when all but the setting is lost."""

from waryrig.books import made_book
from waryrig.ends import from_home, lots_of_ends
from waryrig.ground import Ground
from waryrig.lots import agreeing_at, every_fault
from waryrig.machine import Machine, check_run_with_cuts
from waryrig.papers import first_stuck
from waryrig.regions import least_way
from waryrig.rigs import HOME, SIGNS, check_fault, check_setting
from waryrig.solver import way_to_part


def lost_at(book, g):
    """Return the faults under which safe walks come to the setting."""
    rig, _ = made_book(book)
    check_setting(rig, g)
    return possible_when_lost(Ground(book))[g]


def possible_when_lost(ground):
    """Return a list of what lost_at tells of each setting."""
    found = [[] for row in ground.rig[SIGNS]]
    for lot in lots_of_ends(ground.rig, ground, from_home(ground.rig)):
        for g in ground.region(lot, HOME):
            found[g].extend(lot)
    return [tuple(sorted(faults)) for faults in found]


def bears(book):
    """Return whether each safe walk can be brought to a right end though all is lost."""
    made_book(book)
    return first_loss(Ground(book)) is None


def first_loss(ground):
    """Return the first setting and the lot that nothing parts there if all is lost, or None."""
    for g, lot in enumerate(possible_when_lost(ground)):
        worst = first_stuck(ground.rig, ground, (lot, g))
        if worst is not None:
            return g, worst
    return None


def safe_way(book, x, g):
    """Return a walk that is safe under x and ends at the setting, or None."""
    rig, _ = made_book(book)
    check_fault(rig, x)
    check_setting(rig, g)
    return way_under(Ground(book), x, g)


def way_under(ground, x, g):
    """Do what safe_way does, of what is checked already."""
    rig = ground.rig
    walk = (HOME,)
    lot = agreeing_at(rig, every_fault(rig), x, walk)
    while True:
        joined = ground.joined(lot)
        steps = least_way(joined, walk[-1], g)
        if steps is not None:
            return walk + steps[1:]
        steps = way_to_part(rig, joined, lot, walk[-1])
        if steps is None:
            return None
        walk = walk + steps[1:]
        lot = agreeing_at(rig, lot, x, walk[-1:])


def loss_paper(book):
    """Return the triple (setting, lot, walks) that shows that the book does not bear, or None."""
    made_book(book)
    ground = Ground(book)
    loss = first_loss(ground)
    if loss is None:
        return None
    g, lot = loss
    return g, lot, tuple([way_under(ground, y, g) for y in lot])


def run_lost(book, code, x, cuts):
    """Return the triple of the walk, the remedy or None, and the journal, all lost at each cut."""
    check_run_with_cuts(book, code, x, cuts)
    machine = LosingMachine(book, x)
    machine.run(code, cuts)
    return machine.outcome()


class LosingMachine(Machine):
    """A machine of which a cut leaves nothing but where it stands."""

    def start_behind_cut(self):
        """Return where one goes on from: what may be if one has come there at all."""
        here = self.steps[-1]
        self.entries = []
        return possible_when_lost(self.ground)[here], here
