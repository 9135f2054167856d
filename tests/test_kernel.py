"""The judges of waryrig/kernel.py: chain_right ([28]), loss_right ([45]), dark_right ([48]).

Those of stuck_right stand in test_papers.py.
"""

import itertools
import unittest

from tests.helping import (
    ANYTHING, BOOK, LOST, MOVES, NO_LOTS, NO_NUMBERS, NO_RIGS, NO_TUPLES, NO_WALKS, RIG, Strict,
    greatest_rig, lots_of, many_lots, random_books, replaced,
)
from waryrig.ends import home
from waryrig.kernel import chain_right, dark_right, loss_right, stuck_right
from waryrig.lots import done, one_sign
from waryrig.papers import stuck
from waryrig.regions import region
from waryrig.walks import is_walk, safe

NO_BOOKS = (None, 0, (), RIG, (RIG,), (RIG, ()), (RIG, ((), None)), (RIG, ((), ((),))),
            BOOK + ((),)) + tuple((thing, ((), ())) for thing, _ in NO_RIGS)

# The paper of the second book of [45].
WALK = (0, 1, 0, 2)
PAPER = (2, (0, 1), (WALK, WALK))


def hidden(book, lot, around):
    """Tell whether no setting parts the lot."""
    return all(one_sign(book[0], lot, g) for g in around)


def plain_chain(book, chain):
    """Reckon chain_right of a tuple of lots as its words say."""
    if not chain:
        return True
    if done(book[0], chain[0]):
        return False
    return all(
        set(lot) <= set(greater) and lot != greater and hidden(book, lot, region(book, greater, 0))
        for lot, greater in zip(chain, chain[1:])
    )


def plain_loss(book, g, lot, walks):
    """Reckon loss_right of a setting, a lot and a tuple of walks as its words say."""
    return (not done(book[0], lot) and len(walks) == len(lot)
            and all(safe(book, x, walk) and walk[-1] == g for x, walk in zip(lot, walks))
            and hidden(book, lot, region(book, lot, g)))


def dark(book, settings):
    """Return the book in which these settings show nothing."""
    signs = tuple(
        (0,) * book[0][0] if g in settings else row for g, row in enumerate(book[0][3])
    )
    return (replaced(book[0], 3, signs), book[1])


def walks_to(book, g):
    """Return the walks of four settings at most that end at g."""
    settings = range(len(book[0][3]))
    walks = [walk for many in range(1, 5) for walk in itertools.product(settings, repeat=many)
             if walk[-1] == g and walk[0] == 0]
    return [walk for walk in walks if is_walk(book[0], walk)]


class Chains(Strict):

    def test_the_example(self):
        self.assertIs(chain_right(BOOK, ((0, 1), (0, 1, 2))), True)
        self.assertIs(chain_right(book=BOOK, chain=((0, 1), (0, 1, 2))), True)

    def test_the_empty_one(self):
        self.assertIs(chain_right(BOOK, ()), True)
        for thing in NO_BOOKS:
            self.assertIs(chain_right(thing, ()), False)

    def test_one_lot(self):
        for lot in lots_of(3):
            self.assertIs(chain_right(BOOK, (lot,)), len(lot) > 1)

    def test_the_first_is_not_done(self):
        self.assertIs(chain_right(BOOK, ((), (0, 1))), False)
        self.assertIs(chain_right(BOOK, ((0,), (0, 1, 2))), False)
        cured = (replaced(RIG, 2, ((0,), (0,), (1,))), BOOK[1])
        self.assertIs(chain_right(cured, ((0, 1), (0, 1, 2))), False)
        self.assertIs(chain_right(cured, ((0, 1, 2),)), True)

    def test_each_lies_within_the_one_behind_it_and_is_unlike_it(self):
        book = (replaced(RIG, 3, ((0, 0, 0),) * 3), BOOK[1])
        self.assertIs(chain_right(book, ((0, 1), (0, 1, 2))), True)
        self.assertIs(chain_right(book, ((0, 1), (0, 1))), False)
        self.assertIs(chain_right(book, ((0, 1, 2), (0, 1, 2))), False)
        self.assertIs(chain_right(book, ((0, 1), (0, 2))), False)
        self.assertIs(chain_right(book, ((0, 1), (1, 2))), False)
        self.assertIs(chain_right(book, ((0, 1, 2), (0, 1))), False)
        self.assertIs(chain_right(book, ((0, 1), (0, 1, 2), (0, 1, 2))), False)

    def test_each_has_one_sign_where_the_one_behind_it_leads(self):
        self.assertIs(chain_right(BOOK, ((0, 2), (0, 1, 2))), False)
        self.assertIs(chain_right(BOOK, ((1, 2), (0, 1, 2))), False)
        no_bars = (RIG, ((), ()))
        self.assertIs(chain_right(no_bars, ((0, 1), (0, 1, 2))), False)
        self.assertIs(chain_right(no_bars, ((0, 1, 2),)), True)

    def test_three_lots(self):
        signs = ((0,) * 4, (0, 0, 0, 1), (0, 0, 1, 0), (0, 1, 0, 0))
        rig = (4, 4, ((0,), (1,), (2,), (3,)), signs, ((0, 1), (0, 2), (0, 3)))
        book = (rig, ((), ((3,),), ((2,), (3,))))
        chain = ((0, 1), (0, 1, 2), (0, 1, 2, 3))
        self.assertIs(chain_right(book, chain), True)
        for index in range(3):
            left = chain[:index] + chain[index + 1:]
            self.assertIs(chain_right(book, left), True)
            for lot in lots_of(4):
                other = replaced(chain, index, lot)
                self.assertIs(chain_right(book, other), plain_chain(book, other))
        self.assertIs(chain_right(book, chain[::-1]), False)
        self.assertIs(chain_right(book, ((0, 1), (0, 1, 3), (0, 1, 2, 3))), False)
        self.assertIs(chain_right(book, ((0, 3), (0, 1, 2, 3))), False)

    def test_what_is_no_tuple_of_lots(self):
        for thing in NO_TUPLES:
            self.assertIs(chain_right(BOOK, thing), False)
        for lot in NO_LOTS:
            self.assertIs(chain_right(BOOK, (lot,)), False)
            self.assertIs(chain_right(BOOK, (lot, (0, 1, 2))), False)
            self.assertIs(chain_right(BOOK, ((0, 1), lot)), False)
            self.assertIs(chain_right(BOOK, ((0, 1), (0, 1, 2), lot)), False)

    def test_anything_is_judged(self):
        for thing in ANYTHING:
            self.assertIs(chain_right(BOOK, thing), thing == ())
            self.assertIs(chain_right(BOOK, (thing,)), thing in ((0, 1), (0, 1, 2)))
            self.assertIs(chain_right(BOOK, ((0, 1), thing)), thing == (0, 1, 2))
            self.assertIs(chain_right(thing, ()), False)
            self.assertIs(chain_right(thing, thing), False)
        for thing in NO_BOOKS:
            self.assertIs(chain_right(thing, ((0, 1), (0, 1, 2))), False)

    def test_reckoned_plainly(self):
        right = 0
        for book in random_books(60, 91, 0.4):
            lots = lots_of(min(book[0][0], 4))
            for chain in itertools.product(lots, repeat=2):
                due = plain_chain(book, chain)
                self.assertIs(chain_right(book, chain), due)
                right += due
        self.assertGreater(right, 50)

    def test_the_greatest_book(self):
        book = (replaced(greatest_rig(), 2, ((),) * 24), (many_lots(200),) * 200)
        chain = tuple(tuple(range(many)) for many in range(1, 25))
        self.assertIs(chain_right(book, chain), True)
        self.assertIs(chain_right(book, chain + chain[-1:]), False)


class Losses(Strict):

    def test_the_example(self):
        self.assertIs(loss_right(LOST, PAPER), True)
        self.assertIs(loss_right(book=LOST, paper=PAPER), True)

    def test_another_setting(self):
        for g in (0, 1):
            self.assertIs(loss_right(LOST, replaced(PAPER, 0, g)), False)
        # All that is spoilt here is that the lot is parted from home.
        self.assertIs(loss_right(LOST, (0, (0, 1), ((0,), (0,)))), False)
        self.assertIs(loss_right((LOST[0], (((0, 1),), ((0, 1),))), (0, (0, 1), ((0,), (0,)))), True)

    def test_another_lot(self):
        for lot, walks in (((0,), (WALK,)), ((1,), (WALK,)), ((), ())):
            self.assertIs(loss_right(LOST, (2, lot, walks)), False)
        cured = (replaced(LOST[0], 2, ((0,), (0, 1))), LOST[1])
        self.assertIs(loss_right(cured, PAPER), False)
        never = (replaced(LOST[0], 2, ((0,), ())), LOST[1])
        self.assertIs(loss_right(never, (2, (1,), (WALK,))), True)
        self.assertIs(loss_right(never, (2, (0,), (WALK,))), False)

    def test_as_many_walks_as_faults(self):
        for walks in ((), (WALK,), (WALK,) * 3, WALK, None, ((),) * 2, 2):
            self.assertIs(loss_right(LOST, replaced(PAPER, 2, walks)), False)

    def test_each_walk_is_safe_and_ends_there(self):
        for index in (0, 1):
            for walk, right in (
                (WALK, True), ((0, 1, 0, 2, 0, 2), True), ((0, 1, 0, 1, 0, 2), True),
                ((0, 2), False), ((0, 1, 0), False), ((0, 1), False), ((0,), False),
                ((0, 1, 0, 2, 0), False), ((0, 1, 2), False), ((2,), False), ((1, 0, 2), False),
                ((), False), (None, False), (2, False), ((0, 1, 0, 2.0), False),
            ):
                paper = replaced(PAPER, 2, replaced(PAPER[2], index, walk))
                self.assertIs(loss_right(LOST, paper), right)

    def test_each_walk_is_safe_under_its_own_fault(self):
        # Fault 2 shows itself at setting 1, and bars the move to 2 as long as it is possible.
        book = ((3, 1, ((), (), ()), RIG[3], MOVES), ((), ((2,),)))
        for x in range(3):
            self.assertIs(loss_right(book, (2, (x,), (WALK,))), x != 2)
        # No setting parts any lot here but setting 1, to which a bar leads of all three.
        signs = ((0, 0, 0), (0, 0, 1), (0, 0, 0))
        book = ((3, 1, ((), (), ()), signs, MOVES), (((0, 1, 2),), ((1,), (2,))))
        self.assertIs(loss_right(book, (0, (0, 1, 2), ((0,),) * 3)), True)
        book = ((3, 1, ((), (), ()), signs, MOVES), ((), ((2,),)))
        walks = ((0,), (0, 1, 0), (0, 1, 0, 2, 0))
        for order in itertools.permutations(walks):
            # From home setting 1 parts the three, so just two of them can stand.
            self.assertIs(loss_right(book, (0, (0, 1, 2), order)), False)
            self.assertIs(loss_right(book, (0, (0, 1), order[:2])), True)
            self.assertIs(loss_right(book, (0, (2,), order[2:])), order[2] != walks[2])

    def test_what_is_no_triple(self):
        for thing in NO_TUPLES + ((), PAPER[:2], PAPER + (0,), (PAPER,), "abc"):
            self.assertIs(loss_right(LOST, thing), False)

    def test_parts_that_are_none(self):
        never = ((1, 1, ((),), ((0,), (0,)), ((0, 1),)), ((),))
        self.assertIs(loss_right(never, (0, (0,), ((0,),))), True)
        self.assertIs(loss_right(never, (1, (0,), ((0, 1),))), True)
        for g in NO_NUMBERS + (2, -1):
            self.assertIs(loss_right(never, (g, (0,), ((0,),))), False)
            self.assertIs(loss_right(never, (g, (0,), ((0, 1),))), False)
        for lot in NO_LOTS:
            self.assertIs(loss_right(never, (0, lot, ((0,),))), False)
        never = ((3, 1, ((), (), ()), RIG[3], MOVES), ((), ()))
        for lot in NO_LOTS:
            self.assertIs(loss_right(never, (0, lot, ((0,),))), False)
            self.assertIs(loss_right(never, (0, lot, ((0,), (0,)))), False)
        for walk, _ in NO_WALKS:
            self.assertIs(loss_right(never, (0, (0,), (walk,))), False)
        for thing in NO_BOOKS:
            self.assertIs(loss_right(thing, PAPER), False)

    def test_anything_is_judged(self):
        for thing in ANYTHING:
            self.assertIs(loss_right(thing, PAPER), False)
            self.assertIs(loss_right(LOST, thing), False)
            self.assertIs(loss_right(thing, thing), False)
            for place in range(3):
                same = repr(thing) == repr(PAPER[place])
                self.assertIs(loss_right(LOST, replaced(PAPER, place, thing)), same)
            self.assertIs(loss_right(LOST, (2, (0, 1), (WALK, thing))), False)

    def test_reckoned_plainly(self):
        right = 0
        for book in random_books(60, 92, 0.25):
            for g in range(min(len(book[0][3]), 4)):
                walks = walks_to(book, g)[:4]
                for lot in lots_of(min(book[0][0], 3)):
                    for some in itertools.product(walks, repeat=min(len(lot), 2)):
                        due = plain_loss(book, g, lot, some)
                        self.assertIs(loss_right(book, (g, lot, some)), due)
                        right += due
        self.assertGreater(right, 50)


class Darks(Strict):

    def test_the_example(self):
        self.assertIs(dark_right(BOOK, 1, ((0, 1, 2), (1,))), True)
        self.assertIs(dark_right(book=BOOK, r=1, paper=((0, 1, 2), (1,))), True)

    def test_any_settings_that_do(self):
        for settings, lots in (
            ((0,), ()), ((1,), ((0, 1, 2), (0, 2), (1, 2))), ((2,), ((0, 1),)),
        ):
            for lot in lots_of(3):
                self.assertIs(dark_right(BOOK, 1, (lot, settings)), lot in lots)

    def test_home_may_be_among_them(self):
        book = ((2, 2, ((0,), (1,)), ((0, 1), (0, 0)), ((0, 1),)), ((),))
        self.assertIs(dark_right(book, 1, ((0, 1), (0,))), True)
        self.assertIs(dark_right(book, 1, ((0, 1), (1,))), False)
        self.assertIs(dark_right(book, 0, ((0, 1), ())), False)

    def test_just_r_settings(self):
        never = (replaced(RIG, 2, ((), (), ())), BOOK[1])
        for r in range(4):
            for many in range(4):
                for settings in itertools.combinations(range(3), many):
                    self.assertIs(dark_right(never, r, ((0,), settings)), r == many)

    def test_all_of_them_where_there_are_fewer(self):
        for many in (1, 2):
            book = ((2, 2, ((0,), (1,)), ((0, 1),) * many, ()), ())
            for r in range(4):
                everywhere = tuple(range(many))
                self.assertIs(dark_right(book, r, ((0, 1), everywhere)), r >= many)
                self.assertIs(dark_right(book, r, ((0, 1), (0, 1, 2))), False)
                if r >= many:
                    self.assertIs(dark_right(book, r, ((0, 1), everywhere[:-1])), False)

    def test_more_settings_than_dark_paper_is_told_for(self):
        rig = (2, 2, ((0,), (1,)), ((0, 0),) * 39 + ((0, 1),), ((0, 39),))
        self.assertIs(dark_right((rig, ((),)), 1, ((0, 1), (39,))), True)
        self.assertIs(dark_right((rig, ((),)), 3, ((0, 1), (0, 7, 39))), True)
        self.assertIs(dark_right((rig, ((),)), 3, ((0, 1), (0, 7, 38))), False)

    def test_what_is_no_number_from_0_to_3(self):
        never = (replaced(RIG, 2, ((), (), ())), BOOK[1])
        for r in NO_NUMBERS + (-1, 4, 5, 10 ** 30):
            for settings in ((), (0,), (0, 1), (0, 1, 2)):
                self.assertIs(dark_right(never, r, ((0,), settings)), False)

    def test_what_is_no_paper(self):
        never = (replaced(RIG, 2, ((), (), ())), BOOK[1])
        for thing in NO_TUPLES + ((), ((0,),), ((0,), (1,), 0), "ab"):
            self.assertIs(dark_right(never, 1, thing), False)
        for lot in NO_LOTS + ((),):
            self.assertIs(dark_right(never, 1, (lot, (1,))), False)
        for settings in NO_TUPLES + ((3,), (-1,), (True,), (False,), (None,), ("1",), ((1,),)):
            self.assertIs(dark_right(never, 1, ((0,), settings)), False)
        for settings in ((1, 0), (1, 1), (0, 3), (0, True), (2, 1)):
            self.assertIs(dark_right(never, 2, ((0,), settings)), False)
        for thing in NO_BOOKS:
            self.assertIs(dark_right(thing, 1, ((0, 1, 2), (1,))), False)

    def test_anything_is_judged(self):
        paper = ((0, 1, 2), (1,))
        for thing in ANYTHING:
            self.assertIs(dark_right(thing, 1, paper), False)
            self.assertIs(dark_right(BOOK, thing, paper), False)
            self.assertIs(dark_right(BOOK, 1, thing), False)
            self.assertIs(dark_right(thing, thing, thing), False)
            self.assertIs(dark_right(BOOK, 1, (thing, (1,))), thing == (0, 1, 2))
            self.assertIs(dark_right(BOOK, 1, ((0, 1, 2), thing)), False)

    def test_reckoned_plainly(self):
        right = wrong = 0
        for book in random_books(60, 93, 0.45):
            many = len(book[0][3])
            for r in range(4):
                for settings in itertools.combinations(range(many), min(r, many)):
                    darker = dark(book, settings)
                    lot = stuck(darker, home(book[0]))
                    if lot is not None:
                        self.assertIs(dark_right(book, r, (lot, settings)), True)
                    for lot in lots_of(book[0][0])[::3]:
                        due = stuck_right(darker, home(book[0]), lot)
                        self.assertIs(dark_right(book, r, (lot, settings)), due)
                        right += due
                        wrong += not due
        self.assertGreater(min(right, wrong), 100)


if __name__ == "__main__":
    unittest.main()
