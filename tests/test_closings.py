"""[50] closings, [51] walks that open; the examples are those of [52]."""

import random
import unittest

from tests.helping import (
    ANYTHING, BOOK, NOT_BELOW_TWO, NO_LOTS, NO_WALKS, RIG, SIGNS, WRONG_BOOKS, Strict,
    greatest_rig, lots_of, many_lots, random_books, replaced, reached,
)
from waryrig.closings import closing, open_walk, open_walk_right, open_with
from waryrig.errors import BadLot, BadMove
from waryrig.free import free
from waryrig.lots import agreeing, all_faults, one_sign
from waryrig.rigs import neighbours
from waryrig.walks import is_walk, safe, seen

LOTS = lots_of(3)[1:]


def plain_closing(book, lot, chance):
    """Reckon the closing as its words say, a setting at a time, in any order."""
    rig = book[0]
    if not one_sign(rig, lot, 0):
        return None
    settings = [0]
    while True:
        known = agreeing(rig, all_faults(rig), lot[0], tuple(settings))
        near = [h for g in settings for h, move in neighbours(rig, g)
                if h not in settings and free(book, known, move) and one_sign(rig, lot, h)]
        if not near:
            return tuple(sorted(settings)), known
        settings.append(chance.choice(near))


def shortest(rig, here, there, let):
    """Return the least of the shortest ways by moves that are let, whose settings are too."""
    ways = [(here,)]
    while True:
        for steps in sorted(ways):
            if steps[-1] == there:
                return steps
        ways = [steps + (h,) for steps in ways for h, move in neighbours(rig, steps[-1])
                if let(h, move) and h not in steps]


def plain_open_walk(book, move, lot):
    """Reckon open_walk as its words say."""
    if not open_with(book, move, lot):
        return None
    rig = book[0]
    ends = rig[4][move]
    walk = (0,)

    def known():
        return agreeing(rig, all_faults(rig), lot[0], walk)

    while not (set(ends) & set(walk) and free(book, known(), move)):
        lot_now = known()
        near = [h for g in walk for h, by in neighbours(rig, g)
                if h not in walk and free(book, lot_now, by) and one_sign(rig, lot, h)]
        least = min(near)
        walk += shortest(rig, walk[-1], least, lambda h, by: (
            free(book, lot_now, by) and (h in walk or h == least)))[1:]
    lot_now = known()
    last = min(set(ends) & set(walk))
    return walk + shortest(rig, walk[-1], last, lambda h, by: (
        free(book, lot_now, by) and h in walk))[1:]


class Closings(Strict):

    def test_the_examples(self):
        self.same(closing(BOOK, (0, 1)), ((0, 1), (0, 1)))
        self.same(closing(BOOK, (0, 2)), ((0,), (0, 1, 2)))
        self.same(closing(book=BOOK, lot=(1,)), ((0, 1, 2), (1,)))

    def test_none_where_home_parts_the_lot(self):
        rig = (3, 1, ((),) * 3, ((0, 0, 1), (0, 1, 0)), ((0, 1),))
        book = (rig, (((2,),),))
        for lot in LOTS:
            self.assertIs(closing(book, lot) is None, 2 in lot and lot != (2,))
        self.same(closing(book, (2,)), ((0,), (2,)))
        self.same(closing(book, (0,)), ((0, 1), (0,)))
        self.same(closing(book, (0, 1)), ((0,), (0, 1)))

    def test_k_may_have_more_faults_than_the_lot(self):
        self.same(closing(BOOK, (0, 1, 2)), ((0,), (0, 1, 2)))
        self.same(closing((RIG, (((0,),), ((0,),))), (2,)), ((0,), (0, 1, 2)))
        self.same(closing((RIG, ((), ((0,),))), (0,)), ((0, 1), (0, 1)))
        self.same(closing((RIG, ((), ())), (1, 2)), ((0,), (0, 1, 2)))

    def test_in_which_order_does_not_matter(self):
        chance = random.Random(221)
        sizes = set()
        for book in random_books(200, 222):
            for lot in lots_of(book[0][0])[1:]:
                found = closing(book, lot)
                for _ in range(3):
                    self.same(found, plain_closing(book, lot, chance))
                sizes.add(found and len(found[0]))
        self.assertTrue({None, 1, 2, 3, 4} <= sizes)

    def test_great_books(self):
        book = (greatest_rig(), (many_lots(200),) * 200)
        self.same(closing(book, (3,))[0], (0,))
        bare = (greatest_rig(), ((),) * 200)
        self.same(closing(bare, (3,)), (tuple(range(40)), (3, 13, 23)))

    def test_refusals_in_order(self):
        self.refuses_wrong_books(closing, None)
        for lot in NO_LOTS + ((),):
            self.refused(BadLot, -1, closing, BOOK, lot)


class OpenWith(Strict):

    def test_the_examples(self):
        open_ones = {(0, lot) for lot in LOTS} | {(1, (0,)), (1, (0, 1)), (1, (1,))}
        for move in range(2):
            for lot in LOTS:
                self.assertIs(open_with(BOOK, move, lot), (move, lot) in open_ones)
        self.assertIs(open_with(book=BOOK, move=1, lot=(0, 1)), True)

    def test_a_closing_that_is_none(self):
        rig = replaced(RIG, 3, ((0, 0, 1),) + SIGNS[1:])
        book = (rig, ((), ()))
        for move in range(2):
            for lot in LOTS:
                self.assertIs(open_with(book, move, lot), 2 not in lot or lot == (2,))

    def test_a_move_that_is_free_with_no_end_among_the_settings(self):
        # Both moves on are free, but nobody comes to where they begin.
        line = replaced(RIG, 4, ((0, 1), (1, 2)))
        book = (line, (((0,), (1,)), ()))
        for lot in LOTS:
            self.assertIs(open_with(book, 1, lot), False)
        # Setting 1 parts the lot, so one does not stand there while all of it is possible.
        self.assertIs(open_with((line, ((), ())), 1, (0, 2)), False)
        self.assertIs(open_with((line, ((), ())), 1, (0, 1)), True)
        self.assertIs(open_with((line, ((), ())), 0, (0, 2)), True)
        self.same(open_walk((line, ((), ())), 1, (0, 2)), None)

    def test_either_end(self):
        # Move 2 joins 1 and 2, of which only the greater one can be come to.
        rig = replaced(RIG, 4, ((0, 1), (0, 2), (1, 2)))
        book = (rig, (((0,),), (), ()))
        self.assertIs(open_with(book, 2, (0, 2)), True)
        self.same(open_walk(book, 2, (0, 2)), (0, 2))

    def test_what_safe_walks_come_to(self):
        told = [0, 0]
        for book in random_books(250, 223):
            n, _, _, _, moves = book[0]
            states = {state for x in range(n) for state in reached(book, x)}
            for move, ends in enumerate(moves):
                at_ends = [known for here, known in states if here in ends and free(book, known, move)]
                for lot in lots_of(n)[1:]:
                    due = any(set(lot) <= set(known) for known in at_ends)
                    self.assertIs(open_with(book, move, lot), due)
                    told[due] += 1
        self.assertGreater(min(told), 500)

    def test_refusals_in_order(self):
        for call in (open_with, open_walk):
            self.refuses_wrong_books(call, 9, ())
            for move in NOT_BELOW_TWO:
                self.refused(BadMove, move, call, BOOK, move, ())
            for lot in NO_LOTS + ((),):
                self.refused(BadLot, -1, call, BOOK, 1, lot)


class OpenWalks(Strict):

    def test_the_examples(self):
        self.same(open_walk(BOOK, 1, (0, 1)), (0, 1, 0))
        self.same(open_walk(book=BOOK, move=1, lot=(0, 2)), None)

    def test_where_one_stands_at_an_end_already(self):
        for lot in LOTS:
            self.same(open_walk(BOOK, 0, lot), (0,))
        line = (replaced(RIG, 4, ((0, 1), (1, 2))), ((), ()))
        self.same(open_walk(line, 1, (0, 1)), (0, 1))

    def test_the_lesser_of_the_ends_come_to(self):
        # Both ends of the move (1, 2) are come to; it is free only when 3 was seen.
        signs = ((0, 0),) * 3 + ((0, 1),)
        rig = (2, 1, ((),) * 2, signs, ((0, 1), (0, 2), (0, 3), (1, 2)))
        book = (rig, ((), (), (), ((0, 1),)))
        self.same(open_walk(book, 3, (0,)), (0, 1, 0, 2, 0, 3, 0, 1))
        self.same(open_walk(book, 3, (0, 1)), None)
        # Only the greater one is come to.
        book = (rig, (((0,), (1,)), (), (), ((0, 1),)))
        self.same(open_walk(book, 3, (0,)), (0, 2, 0, 3, 0, 2))

    def test_always_the_least_that_is_joined_with_what_was_come_to(self):
        # From 3 it goes back to home's other neighbours before it goes on to 4.
        signs = ((0, 0),) * 5 + ((0, 1),)
        rig = (2, 1, ((),) * 2, signs, ((0, 2), (0, 3), (0, 5), (1, 3), (3, 4), (4, 5)))
        book = (rig, ((), (), ((0,), (1,)), (), (), ()))
        self.same(open_walk(book, 5, (0,)), (0, 2, 0, 3, 1, 3, 4))
        # Not past settings that part the lot, nor by moves that are barred.
        self.same(open_walk(book, 2, (0,)), None)
        self.same(open_walk((rig, ((), (), (), (), (), ((0, 1),))), 5, (0, 1)), None)
        self.same(open_walk((rig, ((), (), (), (), (), ((0, 1),))), 5, (0,)),
                  (0, 2, 0, 3, 1, 3, 4, 3, 0, 5, 4))

    def test_of_several_ways_the_least(self):
        # From 3 back to home there are two ways, by 1 and by 2.
        rig = (2, 1, ((),) * 2, ((0, 0),) * 6, ((0, 1), (0, 2), (0, 4), (1, 3), (2, 3), (4, 5)))
        self.same(open_walk((rig, ((),) * 6), 5, (0,)), (0, 1, 0, 2, 3, 1, 0, 4))
        # At last, too: the move (3, 5) is free only when 4 was seen.
        signs = ((0, 0),) * 4 + ((0, 1), (0, 0))
        rig = replaced(replaced(rig, 3, signs), 4, ((0, 1), (0, 2), (0, 4), (1, 3), (2, 3), (3, 5)))
        book = (rig, ((),) * 5 + (((0, 1),),))
        self.same(open_walk(book, 5, (0,)), (0, 1, 0, 2, 3, 1, 0, 4, 0, 1, 3))

    def test_through_settings_come_to_alone(self):
        # From 2 the way to 3 by 5 would be shorter than back by home, but 5 is new.
        rig = (1, 1, ((),), ((0,),) * 7, ((0, 1), (0, 3), (1, 2), (2, 5), (3, 5), (3, 6)))
        book = (rig, ((),) * 6)
        self.same(open_walk(book, 5, (0,)), (0, 1, 2, 1, 0, 3))

    def test_reckoned_plainly(self):
        told = [0, 0]
        for book in random_books(120, 224):
            for move in range(len(book[1])):
                for lot in lots_of(book[0][0])[1:]:
                    walk = open_walk(book, move, lot)
                    self.same(walk, plain_open_walk(book, move, lot))
                    self.assertIs(walk is None, not open_with(book, move, lot))
                    if walk is not None:
                        self.assertIs(is_walk(book[0], walk), True)
                        self.assertIs(open_walk_right(book, move, lot, walk), True)
                        told[len(walk) > 2] += 1
        self.assertGreater(min(told), 100)

    def test_great_books(self):
        pairs = tuple((g, g + 1) for g in range(39))
        rig = (24, 1, ((),) * 24, tuple((0,) * 23 + (g % 2,) for g in range(40)), pairs)
        book = (rig, ((),) * 38 + (((22, 23),),))
        self.same(open_walk(book, 38, (0, 1)), tuple(range(39)))
        self.same(open_walk(book, 38, (0, 23)), None)


class Right(Strict):

    def test_the_example(self):
        self.assertIs(open_walk_right(BOOK, 1, (0, 1), (0, 1, 0)), True)
        self.assertIs(open_walk_right(book=BOOK, move=1, lot=(0, 1), walk=(0, 1, 0)), True)

    def test_any_other_walk_that_does(self):
        for walk in ((0, 1, 0, 1, 0), (0, 1, 0), (0, 1, 0, 1, 0, 1, 0)):
            self.assertIs(open_walk_right(BOOK, 1, (0, 1), walk), True)
        self.assertIs(open_walk_right(BOOK, 1, (0,), (0, 1, 0, 2)), True)
        self.assertIs(open_walk_right(BOOK, 0, (0, 1, 2), (0,)), True)
        self.assertIs(open_walk_right(BOOK, 0, (0, 1), (0, 1)), True)

    def test_what_makes_it_wrong(self):
        for move, lot, walk in (
            (1, (0, 1), (0,)),  # the move is not free at what was seen
            (1, (0, 1), (0, 1)),  # it does not end at an end of the move
            (0, (0,), (0, 1, 0, 2)),
            (1, (0, 1), (0, 2)),  # it is not safe
            (1, (0,), (0, 2, 0)),
            (1, (2,), (0, 1, 0, 2)),
            (1, (0, 1), (0, 1, 0, 2)),  # a setting of it parts the lot
            (0, (0, 2), (0, 1)),
            (0, (0, 1, 2), (0, 1, 0)),
            (1, (0, 2), (0,)),
        ):
            self.assertIs(open_walk_right(BOOK, move, lot, walk), False)

    def test_each_part_spoilt(self):
        spoilt = 0
        for book in random_books(80, 225):
            rig = book[0]
            for move in range(len(book[1])):
                for lot in lots_of(rig[0])[1:]:
                    walk = open_walk(book, move, lot)
                    if walk is not None:
                        for other in (walk[:-1], walk + walk[-2:-1], walk[1:], walk + (0,), walk[::-1]):
                            due = self.plainly(book, move, lot, other)
                            self.assertIs(open_walk_right(book, move, lot, other), due)
                            spoilt += not due
                        for another in range(len(book[1])):
                            due = self.plainly(book, another, lot, walk)
                            self.assertIs(open_walk_right(book, another, lot, walk), due)
                            spoilt += not due
                        for more in lots_of(rig[0])[1:]:
                            due = self.plainly(book, move, more, walk)
                            self.assertIs(open_walk_right(book, move, more, walk), due)
                            spoilt += not due
        self.assertGreater(spoilt, 1000)

    def plainly(self, book, move, lot, walk):
        """Reckon open_walk_right of a move, a lot and a tuple of settings as its words say."""
        rig = book[0]
        return (is_walk(rig, walk) and safe(book, lot[0], walk)
                and all(one_sign(rig, lot, g) for g in walk) and walk[-1] in rig[4][move]
                and free(book, seen(rig, lot[0], walk), move))

    def test_only_the_first_fault_of_the_lot_is_walked_under(self):
        # Under the others it is as safe, as they show the same.
        for lot in ((0,), (1,), (0, 1)):
            self.assertIs(open_walk_right(BOOK, 1, lot, (0, 1, 0)), True)
            for x in lot:
                self.assertIs(safe(BOOK, x, (0, 1, 0)), True)

    def test_what_does_not_have_its_form(self):
        for thing, _, _ in WRONG_BOOKS:
            self.assertIs(open_walk_right(thing, 0, (0,), (0,)), False)
        for move in NOT_BELOW_TWO:
            self.assertIs(open_walk_right(BOOK, move, (0,), (0,)), False)
        for lot in NO_LOTS + ((),):
            self.assertIs(open_walk_right(BOOK, 0, lot, (0,)), False)
        for walk, _ in NO_WALKS:
            self.assertIs(open_walk_right(BOOK, 0, (0,), walk), False)

    def test_anything_is_judged(self):
        for thing in ANYTHING:
            self.assertIs(open_walk_right(thing, 0, (0,), (0,)), False)
            self.assertIs(open_walk_right(BOOK, thing, (0,), (0,)), repr(thing) == "0")
            self.assertIs(open_walk_right(BOOK, 0, thing, (0,)), thing in ((0,), (0, 1), (0, 1, 2)))
            self.assertIs(open_walk_right(BOOK, 0, (0,), thing), thing in ((0,), (0, 1)))
            self.assertIs(open_walk_right(thing, thing, thing, thing), False)


if __name__ == "__main__":
    unittest.main()
