"""[54] questions about a book and a fault; the examples are those of [54]."""

import unittest

from tests.helping import (
    BOOK, CURES, NOT_BELOW_THREE, NOT_BELOW_TWO, RIG, SIGNS, WRONG_BOOKS, Strict, greatest_rig,
    many_lots, random_books, reached, replaced,
)
from waryrig.books import is_book
from waryrig.closings import closing, open_with
from waryrig.ends import end
from waryrig.errors import BadFault, BadMove
from waryrig.free import free
from waryrig.lots import agreeing, all_faults, done
from waryrig.questions import always_out, can_make, must, out_first
from waryrig.rigs import neighbours

BARE = (RIG, ((), ()))


def makings(book, x, move):
    """Return what is known under x at all moments at which the move can be made."""
    ends = book[0][4][move]
    return [known for here, known in reached(book, x) if here in ends and free(book, known, move)]


def known_without(book, x, avoided):
    """Return all that walks safe under x can know without making that move."""
    rig = book[0]
    edge = [(0, agreeing(rig, all_faults(rig), x, (0,)))]
    found = set(edge)
    while edge:
        here, known = edge.pop()
        for there, move in neighbours(rig, here):
            state = (there, agreeing(rig, known, x, (there,)))
            if move != avoided and free(book, known, move) and state not in found:
                found.add(state)
                edge.append(state)
    return [known for _, known in found]


def asked(books):
    """Return all questions of a fault and a move of these books."""
    return [(book, x, move) for book in books for x in range(book[0][0])
            for move in range(len(book[1]))]


class CanMake(Strict):

    def test_the_examples(self):
        self.same(can_make(BOOK, 0, 1), True)
        self.same(can_make(BOOK, 2, 1), False)
        self.same(can_make(book=BOOK, x=1, move=1), True)

    def test_of_all_moments(self):
        told = [0, 0]
        for book, x, move in asked(random_books(300, 301)):
            found = can_make(book, x, move)
            self.same(found, len(makings(book, x, move)) > 0)
            told[found] += 1
        self.assertGreater(min(told), 300)

    def test_of_the_end(self):
        for book, x, move in asked(random_books(100, 302)):
            lot, settings = end(book, x)
            due = free(book, lot, move) and bool(set(settings) & set(book[0][4][move]))
            self.same(can_make(book, x, move), due)

    def test_free_but_out_of_reach(self):
        signs = ((0, 0), (0, 1), (0, 0), (0, 0))
        book = ((2, 1, ((0,), (0,)), signs, ((0, 1), (2, 3))), ((), ()))
        self.same(can_make(book, 0, 0), True)
        self.same(can_make(book, 0, 1), False)

    def test_one_end_is_enough(self):
        # The greater end of the last move is come to, and the lesser end is not.
        rig = (1, 1, ((0,),), ((0,), (0,), (0,)), ((0, 2), (1, 2)))
        self.same(can_make((rig, ((), ())), 0, 1), True)
        self.same(can_make((rig, (((0,),), ())), 0, 1), False)

    def test_a_move_that_is_barred_at_first_and_not_at_last(self):
        self.same(can_make((RIG, ((), ((0, 2), (1, 2)))), 0, 1), True)
        self.same(can_make((RIG, ((), ((0,), (1,)))), 2, 1), True)
        self.same(can_make((RIG, ((), ((0,), (2,)))), 0, 1), False)

    def test_refusals_in_order(self):
        self.refuses_wrong_books(can_make, None, None)
        self.refuses_wrong_faults(can_make, (BOOK,), (None,))
        for move in NOT_BELOW_TWO:
            self.refused(BadMove, move, can_make, BOOK, 0, move)


class AlwaysOut(Strict):

    def test_the_examples(self):
        self.same(always_out(BOOK, 0, 1, 2), True)
        self.same(always_out(BOOK, 0, 1, 1), False)
        self.same(always_out(book=BOOK, x=1, move=1, y=0), False)

    def test_true_of_a_move_that_is_never_made(self):
        for y in (0, 1):
            self.same(always_out(BOOK, 2, 1, y), True)
        book = (RIG, (((0,), (1,), (2,)), ()))
        for x, y in ((0, 1), (1, 0), (2, 0), (0, 2)):
            self.same(can_make(book, x, 0), False)
            self.same(always_out(book, x, 0, y), True)

    def test_of_all_moments(self):
        told = [0, 0]
        for book, x, move in asked(random_books(300, 303)):
            known = makings(book, x, move)
            for y in range(book[0][0]):
                if y != x:
                    found = always_out(book, x, move, y)
                    self.same(found, all(y not in lot for lot in known))
                    self.same(found, not open_with(book, move, tuple(sorted((x, y)))))
                    told[found] += len(known) > 0
        self.assertGreater(min(told), 300)

    def test_refusals_in_order(self):
        self.refuses_wrong_books(always_out, None, None, None)
        self.refuses_wrong_faults(always_out, (BOOK,), (None, None))
        for move in NOT_BELOW_TWO:
            self.refused(BadMove, move, always_out, BOOK, 0, move, None)
        for y in NOT_BELOW_THREE + (0,):
            self.refused(BadFault, y, always_out, BOOK, 0, 0, y)
        for x in range(3):
            self.refused(BadFault, x, always_out, BOOK, x, 1, x)
        self.refused(BadFault, True, always_out, BOOK, 2, 1, True)


class Must(Strict):

    def test_the_examples(self):
        self.same(must(BOOK, 0, 1), True)
        self.same(must(BOOK, 2, 1), False)
        self.same(must(book=BOOK, x=2, move=0), True)

    def test_true_where_no_walk_comes_to_a_done_lot(self):
        rig = replaced(RIG, 2, ((), (), ()))
        for x in range(3):
            for move in range(2):
                self.same(must((rig, ((), ())), x, move), True)
        # The move may be one that is never made.
        self.same(must((rig, ((), ((0,), (1,), (2,)))), 0, 1), True)

    def test_false_where_a_done_lot_is_had_without_the_move(self):
        rig = replaced(RIG, 2, ((0,), (0,), (0,)))
        for x in range(3):
            for move in range(2):
                self.same(must((rig, ((), ())), x, move), False)
        two_ways = (2, 2, ((0,), (1,)), ((0, 0), (0, 1), (0, 1)), ((0, 1), (0, 2)))
        self.same(must((two_ways, ((), ())), 0, 0), False)
        self.same(must((two_ways, ((), ())), 0, 1), False)
        self.same(must((two_ways, ((), ((0,), (1,)))), 0, 0), True)

    def test_the_bars_of_the_move_go_with_it(self):
        # The bars of the other moves stay with their moves.
        signs = ((0, 0), (0, 0), (0, 0), (0, 1))
        rig = (2, 2, ((0,), (1,)), signs, ((0, 1), (0, 2), (0, 3)))
        for barred in range(3):
            bars = replaced(((), (), ()), barred, ((0,), (1,)))
            for move in range(3):
                self.same(must((rig, bars), 0, move), barred == 2 or move == 2)

    def test_of_all_walks_without_the_move(self):
        told = [0, 0]
        for book, x, move in asked(random_books(300, 304, 0.45)):
            found = must(book, x, move)
            lots = known_without(book, x, move)
            self.same(found, not any(done(book[0], lot) for lot in lots))
            told[found] += done(book[0], end(book, x)[0])
        self.assertGreater(min(told), 50)

    def test_of_the_rig_without_the_move(self):
        for book, x, move in asked(random_books(60, 305, 0.45)):
            rig, bars = book
            lesser = (replaced(rig, 4, rig[4][:move] + rig[4][move + 1:]),
                      bars[:move] + bars[move + 1:])
            self.assertIs(is_book(lesser), True)
            self.same(must(book, x, move), not done(rig, end(lesser, x)[0]))

    def test_refusals_in_order(self):
        self.refuses_wrong_books(must, None, None)
        self.refuses_wrong_faults(must, (BOOK,), (None,))
        for move in NOT_BELOW_TWO:
            self.refused(BadMove, move, must, BOOK, 0, move)


class OutFirst(Strict):

    def test_the_examples(self):
        self.same(out_first(BOOK, 0, 2, 1), True)
        self.same(out_first(BOOK, 0, 1, 2), False)
        self.same(out_first(book=BOOK, x=1, y=2, z=0), True)

    def test_false_where_the_closing_is_none(self):
        rig = (3, 3, CURES, replaced(SIGNS, 0, (0, 0, 1)), RIG[4])
        book = (rig, ((), ()))
        self.assertIsNone(closing(book, (0, 2)))
        self.same(out_first(book, 0, 1, 2), False)
        self.same(out_first(book, 2, 1, 0), False)
        self.same(out_first(book, 2, 0, 1), False)
        self.same(out_first(book, 0, 2, 1), True)

    def test_without_bars_either_can_be_first(self):
        self.same(out_first(BARE, 0, 1, 2), True)
        self.same(out_first(BARE, 0, 2, 1), True)
        self.same(out_first(BARE, 2, 0, 1), False)

    def test_of_all_that_can_be_known(self):
        told = [0, 0]
        for book in random_books(300, 306):
            for x in range(book[0][0]):
                lots = [known for _, known in reached(book, x)]
                for y in range(book[0][0]):
                    for z in range(book[0][0]):
                        if len({x, y, z}) == 3:
                            found = out_first(book, x, y, z)
                            self.same(found, any(z in lot and y not in lot for lot in lots))
                            told[found] += 1
        self.assertGreater(min(told), 300)

    def test_refusals_in_order(self):
        self.refuses_wrong_books(out_first, None, None, None)
        self.refuses_wrong_faults(out_first, (BOOK,), (None, None))
        for y in NOT_BELOW_THREE + (0,):
            self.refused(BadFault, y, out_first, BOOK, 0, y, None)
        for z in NOT_BELOW_THREE + (0, 1):
            self.refused(BadFault, z, out_first, BOOK, 0, 1, z)
            self.refused(BadFault, z, out_first, BOOK, 1, 0, z)
        self.refused(BadFault, 2, out_first, BOOK, 2, 2, 2)


class Great(Strict):

    def test_great_books(self):
        book = (greatest_rig(), (many_lots(200),) * 200)
        bare = (greatest_rig(), ((),) * 200)
        self.same(can_make(book, 3, 0), False)
        self.same(can_make(bare, 3, 199), True)
        self.same(always_out(book, 3, 0, 4), True)
        self.same(always_out(bare, 3, 39, 13), False)
        self.same(must(book, 3, 0), False)
        self.same(out_first(bare, 3, 4, 13), True)
        self.same(out_first(book, 3, 4, 13), False)

    def test_wrong_books_are_books_that_are_none(self):
        for thing, _, _ in WRONG_BOOKS:
            self.assertIs(is_book(thing), False)


if __name__ == "__main__":
    unittest.main()
