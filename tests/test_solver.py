"""[18] the told code, [19] joined, [20] flat, [21] its examples, [22] solvable."""

import unittest

from tests.helping import (
    BOOK, CODE, CURE, CURES, NO_RIGS, NO_STARTS, RIG, Strict, greatest_rig, many_lots,
    plainly_flat, plainly_joined, random_books, random_starts, replaced,
)
from waryrig.codes import code_right, is_code, run_code
from waryrig.ends import end_from, home
from waryrig.errors import BadBook, BadRig, BadStart
from waryrig.lots import one_sign, parted, remedies_for
from waryrig.regions import region, way
from waryrig.solver import code_for, solvable

ONE_SETTING = (3, 2, ((0,), (0, 1), (1,)), ((0, 0, 1),), ())
TWO_CURES = ("cure", (), 0), ("cure", (), 1)


def no_bars(rig):
    """Return the book of the rig that has no bars."""
    return (rig, ((),) * len(rig[4]))


def plain_tree(book, lot, g, begin=True):
    """Make the tree of [18] as its words say, None where it comes to a lot it cannot part."""
    rig = book[0]
    steps = None
    if not one_sign(rig, lot, g):
        assert begin
        steps = (g,)
    elif remedies_for(rig, lot):
        return ["cure", (), min(remedies_for(rig, lot))]
    else:
        ways = [way(book, lot, g, h) for h in region(book, lot, g) if not one_sign(rig, lot, h)]
        if not ways:
            return None
        # min takes the first one of several, and regions ascend.
        steps = min(ways, key=len)
    below = [(s, plain_tree(book, part, steps[-1], False)) for s, part in parted(rig, lot, steps[-1])]
    if None in [tree for _, tree in below]:
        return None
    return ["look", steps[1:], below]


def plain_code(book, start):
    """Reckon code_for as its words say."""
    tree = plain_tree(book, *start)
    if tree is None:
        return None
    rows = []
    plainly_flat(plainly_joined(tree), rows)
    return tuple(rows)


class Examples(Strict):

    def test_the_first(self):
        self.same(code_for(BOOK, home(RIG)), CODE)
        self.same(run_code(BOOK, CODE, home(RIG), 1), ((0, 1, 0, 2), ("cure", 1)))
        self.assertIs(solvable(BOOK), True)

    def test_one_setting(self):
        due = (("cure", (), 0), ("cure", (), 1), ("look", (), ((0, 0), (1, 1))))
        self.same(code_for((ONE_SETTING, ()), home(ONE_SETTING)), due)

    def test_one_setting_joined(self):
        rig = replaced(ONE_SETTING, 2, ((0,), (0, 1), (0,)))
        self.same(code_for((rig, ()), home(rig)), (("cure", (), 0),))

    def test_those_behind_stuck_right(self):
        rig = (2, 2, ((0,), (1,)), ((0, 0), (0, 1)), ((0, 1),))
        self.same(code_for((rig, (((0, 1),),)), home(rig)), None)
        self.same(code_for((rig, (((0,),),)), home(rig)), None)
        self.assertIs(solvable((rig, (((0, 1),),))), False)
        rig = replaced(rig, 2, ((0,), (0,)))
        self.same(code_for((rig, (((0, 1),),)), home(rig)), (("cure", (), 0),))
        self.assertIs(solvable(book=(rig, (((0, 1),),))), True)


class Trees(Strict):

    def test_a_start_that_is_done(self):
        self.same(code_for(BOOK, ((1,), 2)), (("cure", (), 1),))
        self.same(code_for(BOOK, ((0,), 0)), (CURE,))

    def test_the_least_remedy(self):
        book = no_bars((2, 4, ((1, 2, 3), (0, 2, 3)), ((0, 0),), ()))
        self.same(code_for(book, ((0, 1), 0)), (("cure", (), 2),))
        self.same(code_for(book, ((0,), 0)), (("cure", (), 1),))

    def test_a_start_at_a_setting_that_parts_its_lot(self):
        due = (("cure", (), 0), ("cure", (), 1), ("look", (0, 2), ((0, 0), (1, 1))),
               ("cure", (), 2), ("look", (), ((0, 2), (1, 3))))
        self.same(code_for(BOOK, ((0, 1, 2), 1)), due)
        # That is so though the lot is done, too; only joining takes the look away.
        rig = (2, 2, ((0, 1), (1,)), ((4, 2),), ())
        due = (("cure", (), 1), ("cure", (), 0), ("look", (), ((2, 0), (4, 1))))
        self.same(code_for(no_bars(rig), ((0, 1), 0)), due)
        self.same(code_for(no_bars(replaced(rig, 2, ((1,), (1,)))), ((0, 1), 0)), (("cure", (), 1),))

    def test_the_nearest_setting_and_of_several_the_least(self):
        signs = ((0, 0), (0, 0), (0, 0), (0, 1), (1, 0), (0, 1))
        rig = (2, 2, ((0,), (1,)), signs, ((0, 1), (0, 2), (1, 5), (2, 3), (2, 4)))
        due = TWO_CURES + (("look", (2, 3), ((0, 0), (1, 1))),)
        self.same(code_for(no_bars(rig), home(rig)), due)
        # A greater one that is nearer comes ahead.
        rig = replaced(rig, 4, ((0, 1), (0, 2), (0, 5), (2, 3), (2, 4)))
        due = TWO_CURES + (("look", (5,), ((0, 0), (1, 1))),)
        self.same(code_for(no_bars(rig), home(rig)), due)
        # What is no setting of the region does not count.
        book = (rig, ((), (), ((0, 1),), ((0,),), ()))
        due = (("cure", (), 1), ("cure", (), 0), ("look", (2, 4), ((0, 0), (1, 1))))
        self.same(code_for(book, home(rig)), due)

    def test_of_several_ways_the_least(self):
        signs = ((0, 0),) * 3 + ((0, 1),)
        rig = (2, 2, ((0,), (1,)), signs, ((0, 1), (0, 2), (1, 3), (2, 3)))
        self.same(code_for(no_bars(rig), home(rig))[-1][1], (1, 3))
        self.same(code_for((rig, (((0, 1),), (), (), ())), home(rig))[-1][1], (2, 3))

    def test_a_way_at_what_is_possible_then(self):
        # Only behind setting 3 is the short cut to setting 2 free.
        signs = ((0, 0, 0), (0, 0, 0), (0, 1, 0), (0, 0, 1))
        rig = (3, 3, CURES, signs, ((0, 1), (0, 2), (0, 3), (1, 2)))
        book = (rig, ((), ((2,),), (), ((2,),)))
        due = TWO_CURES + (("look", (0, 2), ((0, 0), (1, 1))), ("cure", (), 2),
                           ("look", (3,), ((0, 2), (1, 3))))
        self.same(code_for(book, home(rig)), due)

    def test_none_where_only_one_branch_is_stuck(self):
        rig = (4, 4, ((0,), (1,), (2,), (3,)), ((0,) * 4, (0, 0, 1, 1), (0, 1, 0, 1)),
               ((0, 1), (1, 2)))
        self.assertIs(solvable(no_bars(rig)), True)
        book = (rig, ((), ((2, 3),)))
        self.same(code_for(book, home(rig)), None)
        self.assertIs(solvable(book), False)
        self.assertIs(solvable((rig, ((), ((1, 2, 3),)))), True)

    def test_none_for_a_fault_that_nothing_cures(self):
        rig = replaced(RIG, 2, ((0,), (1,), ()))
        self.same(code_for((rig, BOOK[1]), home(rig)), None)
        self.assertIs(code_for((rig, BOOK[1]), ((0, 1), 0)) is None, False)


class Joined(Strict):

    def test_the_own_way_is_put_ahead(self):
        # A start that parts its lot, but the same is to be done at each sign.
        rig = (4, 2, ((0,), (1,), (0,), (1,)), ((0, 0, 1, 1), (0, 1, 0, 1)), ((0, 1),))
        due = TWO_CURES + (("look", (1,), ((0, 0), (1, 1))),)
        self.same(code_for(no_bars(rig), home(rig)), due)

    def test_one_within_another(self):
        # Setting 1 parts all into two lots, setting 2 each of these, and both
        # times only setting 3 tells what cures.
        cures = ((0,), (1,)) * 4
        signs = ((0,) * 8, (0, 0, 0, 0, 1, 1, 1, 1), (0, 0, 1, 1, 0, 0, 1, 1), (0, 1) * 4)
        rig = (8, 2, cures, signs, ((0, 1), (1, 2), (2, 3)))
        due = TWO_CURES + (("look", (1, 2, 3), ((0, 0), (1, 1))),)
        self.same(code_for(no_bars(rig), home(rig)), due)

    def test_only_the_inner_one(self):
        # Behind the sign 1 of setting 1, setting 2 tells nothing that matters.
        cures = ((0,), (0,), (0,), (1,))
        signs = ((0,) * 4, (0, 0, 1, 1), (0, 0, 0, 1))
        rig = (4, 2, cures, signs, ((0, 1), (1, 2)))
        due = (CURE, ("cure", (), 1), ("look", (2,), ((0, 0), (1, 1))),
               ("look", (1,), ((0, 0), (1, 2))))
        self.same(code_for(no_bars(rig), home(rig)), due)

    def test_unlike_ways_are_not_joined(self):
        # Behind setting 1 the ways on are unlike, as a bar lets only one of them.
        cures = ((0,), (1,), (0,), (1,))
        signs = ((0,) * 4, (0, 0, 1, 1), (0, 1, 0, 1), (0, 1, 0, 1))
        rig = (4, 2, cures, signs, ((0, 1), (1, 2), (1, 3)))
        due = TWO_CURES + (("look", (1, 2), ((0, 0), (1, 1))),)
        self.same(code_for(no_bars(rig), home(rig)), due)
        book = (rig, ((), ((2,),), ()))
        due = TWO_CURES + (("look", (2,), ((0, 0), (1, 1))), ("look", (3,), ((0, 0), (1, 1))),
                           ("look", (1,), ((0, 2), (1, 3))))
        self.same(code_for(book, home(rig)), due)

    def test_the_walks_and_the_remedies_stay(self):
        for book, start in random_starts(150, 51):
            tree = plain_tree(book, *start)
            if tree is not None:
                rows = []
                plainly_flat(tree, rows)
                for x in start[0]:
                    due = run_code(book, tuple(rows), start, x)
                    self.same(run_code(book, code_for(book, start), start, x), due)


class Flat(Strict):

    def test_a_row_that_is_there_already(self):
        rig = (3, 2, ((0,), (1,), (0,)), ((5, 3, 1),), ())
        due = (("cure", (), 0), ("cure", (), 1), ("look", (), ((1, 0), (3, 1), (5, 0))))
        self.same(code_for(no_bars(rig), home(rig)), due)

    def test_a_look_that_is_there_already(self):
        cures = ((0,), (1,), (2,), (0,), (1,))
        signs = ((0, 0, 1, 2, 2), (0, 1, 0, 0, 1))
        rig = (5, 3, cures, signs, ((0, 1),))
        due = (("cure", (), 0), ("cure", (), 1), ("look", (1,), ((0, 0), (1, 1))),
               ("cure", (), 2), ("look", (), ((0, 2), (1, 3), (2, 2))))
        self.same(code_for(no_bars(rig), home(rig)), due)

    def test_by_sign(self):
        rig = (3, 3, CURES, ((2, 0, 1),), ())
        due = (("cure", (), 1), ("cure", (), 2), ("cure", (), 0),
               ("look", (), ((0, 0), (1, 1), (2, 2))))
        self.same(code_for(no_bars(rig), home(rig)), due)


class Reckoned(Strict):

    def test_from_many_starts(self):
        kinds = set()
        for book, start in random_starts(500, 52):
            due = plain_code(book, start)
            self.same(code_for(book=book, start=start), due)
            kinds.add(due and min(len(due), 4))
        self.assertEqual(kinds, {None, 1, 2, 3, 4} - {2})

    def test_from_home(self):
        for book in random_books(200, 53):
            due = plain_code(book, home(book[0]))
            self.same(code_for(book, home(book[0])), due)
            self.assertIs(solvable(book), due is not None)

    def test_it_comes_to_the_lot_of_the_end_or_to_one_that_is_done(self):
        for book, start in random_starts(150, 54):
            code = code_for(book, start)
            if code is not None:
                self.assertIs(is_code(book[0], code), True)
                self.assertIs(code_right(book, code, start), True)
                for x in start[0]:
                    walk, _ = run_code(book, code, start, x)
                    self.assertTrue(set(walk) <= set(end_from(book, start, x)[1]))

    def test_great_books(self):
        pairs = tuple((g, g + 1) for g in range(39))
        signs = tuple(tuple(int(x == g) for x in range(24)) for g in range(40))
        rig = (24, 16, tuple((x % 16,) for x in range(24)), signs, pairs)
        book = (rig, tuple(tuple((x,) for x in range(min(g, 23))) for g in range(39)))
        code = code_for(book, home(rig))
        self.assertEqual(len(code), 16 + 23)
        self.assertIs(code_right(book, code, home(rig)), True)
        full = (greatest_rig(), (many_lots(200),) * 200)
        self.assertIs(solvable(full), True)
        self.same(code_for(full, home(full[0])), (CURE,))


class Refusals(Strict):

    def test_of_code_for_in_order(self):
        self.refused(BadBook, -1, code_for, None, None)
        self.refused(BadBook, -2, code_for, (RIG, ()), None)
        self.refused(BadBook, 1, code_for, (RIG, ((), None)), None)
        for thing, where in NO_RIGS:
            self.refused(BadRig, where, code_for, (thing, ()), None)
        for thing in NO_STARTS:
            self.refused(BadStart, 0, code_for, BOOK, thing)

    def test_of_solvable(self):
        self.refused(BadBook, -1, solvable, RIG)
        self.refused(BadBook, -2, solvable, (RIG, ()))
        self.refused(BadBook, 0, solvable, (RIG, (((),), ())))
        for thing, where in NO_RIGS:
            self.refused(BadRig, where, solvable, (thing, ()))


if __name__ == "__main__":
    unittest.main()
