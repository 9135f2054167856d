"""[75], [76] a person at the rig, who is led step by step."""

import random
import unittest

from tests.helping import (
    BOOK, NOT_BELOW_THREE, NO_NUMBERS, RIG, Strict, WRONG_BOOKS, greatest_rig, many_lots,
    random_books, replaced,
)
from waryrig.ends import end
from waryrig.errors import BadSetting, BadSign, Barred, NotSeen, NoMove, Refused, Unlike
from waryrig.free import barring, free
from waryrig.live import Live
from waryrig.lots import agreeing, all_faults, done, remedies_for
from waryrig.regions import region
from waryrig.rigs import neighbours
from waryrig.solver import code_for

BARE = (RIG, ((), ()))


def answers(live):
    """Return all that can be asked of a person, the refusal of advice among it."""
    try:
        advice = live.advice()
    except Refused as error:
        advice = type(error), error.what
    return (live.at(), live.knowledge(), live.moves(), live.remedies(), live.home_free(),
            advice, live.log())


class Follower:
    """Keeps what a Live is told, and reckons all answers from it alone."""

    def __init__(self, book):
        self.book = book
        self.steps = [[0, None]]
        self.seen = {}

    def known(self):
        rig = self.book[0]
        return tuple(x for x in range(rig[0])
                     if all(rig[3][g][x] == sign for g, sign in self.seen.items()))

    def answers(self):
        rig = self.book[0]
        here, sign = self.steps[-1]
        known = self.known()
        near = [g for g, move in neighbours(rig, here) if free(self.book, known, move)]
        code = code_for(self.book, (known, here))
        advice = code and code[-1]
        if sign is None:
            near, advice = [], (NotSeen, here)
        return (here, known, tuple(near), remedies_for(rig, known),
                0 in region(self.book, known, here), advice, tuple(map(tuple, self.steps)))

    def sees(self, sign):
        self.seen[self.steps[-1][0]] = sign
        self.steps[-1][1] = sign

    def go(self, g):
        self.steps.append([g, None])


class Examples(Strict):

    def test_a_whole_walk(self):
        live = Live(BOOK)
        self.same(answers(live), (0, (0, 1, 2), (), (), True, (NotSeen, 0), ((0, None),)))
        self.same(live.sees(0), None)
        self.same(answers(live), (0, (0, 1, 2), (1,), (), True,
                                  ("look", (1,), ((0, 2), (1, 3))), ((0, 0),)))
        self.same(live.go(1), None)
        self.same(answers(live), (1, (0, 1, 2), (), (), True, (NotSeen, 1), ((0, 0), (1, None))))
        live.sees(0)
        self.same(answers(live), (1, (0, 1), (0,), (), True, ("look", (0, 2), ((0, 0), (1, 1))),
                                  ((0, 0), (1, 0))))
        live.go(0)
        live.sees(0)
        self.same(live.moves(), (1, 2))
        self.same(live.advice(), ("look", (2,), ((0, 0), (1, 1))))
        live.go(2)
        live.sees(1)
        self.same(answers(live), (2, (1,), (0,), (1,), True, ("cure", (), 1),
                                  ((0, 0), (1, 0), (0, 0), (2, 1))))

    def test_by_name(self):
        live = Live(book=BOOK)
        live.sees(sign=0)
        live.go(g=1)
        live.rebook(book=BARE)
        self.same(live.log(), ((0, 0), (1, None)))

    def test_two_of_them_do_not_meet(self):
        one, two = Live(BOOK), Live(BOOK)
        one.sees(0)
        one.go(1)
        self.same(two.log(), ((0, None),))
        self.same(two.at(), 0)


class Sees(Strict):

    def test_twice_at_one_setting(self):
        live = Live(((3, 1, ((0,),) * 3, ((0, 0, 4),), ()), ()))
        live.sees(0)
        live.sees(0)
        self.same(live.log(), ((0, 0),))
        self.refused(BadSign, 4, live.sees, 4)
        self.same(live.knowledge(), (0, 1))
        self.same(live.log(), ((0, 0),))

    def test_bad_signs(self):
        for sign in NO_NUMBERS + (2, 9, 10, -1, 10 ** 30, -10 ** 30):
            live = Live((replaced(RIG, 3, ((0, 1, 1),) + RIG[3][1:]), BOOK[1]))
            ahead = answers(live)
            self.refused(BadSign, sign, live.sees, sign)
            self.same(answers(live), ahead)
            live.sees(1)
            self.same(live.knowledge(), (1, 2))
            self.refused(BadSign, 0, live.sees, 0)
            self.refused(BadSign, sign, live.sees, sign)

    def test_a_sign_that_no_fault_of_the_knowledge_shows(self):
        live = Live(BARE)
        live.sees(0)
        live.go(1)
        live.sees(1)
        self.same(live.knowledge(), (2,))
        live.go(0)
        live.sees(0)
        live.go(2)
        self.refused(BadSign, 1, live.sees, 1)
        self.same(live.log()[-1], (2, None))
        live.sees(0)
        self.same(live.knowledge(), (2,))

    def test_again_each_time_one_comes(self):
        live = Live(BOOK)
        live.sees(0)
        live.go(1)
        live.sees(0)
        live.go(0)
        self.refused(NotSeen, 0, live.go, 1)
        self.refused(NotSeen, 0, live.advice)
        self.same(live.moves(), ())
        live.sees(0)
        self.same(live.moves(), (1, 2))
        self.same(live.log(), ((0, 0), (1, 0), (0, 0)))


class Go(Strict):

    def test_refusals_in_order(self):
        live = Live(BOOK)
        for _ in range(2):
            for g in NOT_BELOW_THREE:
                self.refused(BadSetting, g, live.go, g)
            if live.log()[-1][1] is None:
                for g in range(3):
                    self.refused(NotSeen, 0, live.go, g)
                live.sees(0)
        self.refused(NoMove, 0, live.go, 0)
        self.refused(Barred, (2,), live.go, 2)
        self.same(live.log(), ((0, 0),))
        live.go(1)
        for g in range(3):
            self.refused(NotSeen, 1, live.go, g)
        live.sees(0)
        for g in (1, 2):
            self.refused(NoMove, g, live.go, g)
        live.go(0)
        live.sees(0)
        live.go(2)

    def test_barred_with_the_first_lot(self):
        live = Live((RIG, (((0, 1, 2), (1,)), ((0, 1), (0, 2), (2,)))))
        live.sees(0)
        self.refused(Barred, (0, 1, 2), live.go, 1)
        self.refused(Barred, (0, 1), live.go, 2)
        live = Live((replaced(RIG, 3, ((1, 0, 1),) + RIG[3][1:]), (((0, 1, 2), (1,)), ((0, 1), (0, 2), (2,)))))
        live.sees(1)
        self.refused(Barred, (0, 2), live.go, 2)
        live.go(1)

    def test_what_is_refused_changes_nothing(self):
        chance = random.Random(461)
        for book in random_books(200, 462):
            live = Live(book)
            for _ in range(12):
                ahead = answers(live)
                deed = chance.choice(("sees", "go", "rebook"))
                try:
                    if deed == "sees":
                        live.sees(chance.choice((0, 1, 2, 3, True, None)))
                    elif deed == "go":
                        live.go(chance.choice((0, 1, 2, 3, -1, True, None)))
                    else:
                        live.rebook(chance.choice((None, BOOK)))
                except Refused:
                    self.same(answers(live), ahead)


class Answers(Strict):

    def wander(self, live, follower, x, chance, steps):
        """Go about under a fault, seeing what it shows, and go through all moments."""
        rig = follower.book[0]
        for _ in range(steps):
            self.same(answers(live), follower.answers())
            here = live.at()
            for thing in (live, follower):
                thing.sees(rig[3][here][x])
            self.same(answers(live), follower.answers())
            yield live
            known = follower.known()
            for g, move in neighbours(rig, here):
                if not free(follower.book, known, move):
                    self.refused(Barred, barring(follower.book, known, move), live.go, g)
            if not live.moves():
                return
            g = chance.choice(live.moves())
            for thing in (live, follower):
                thing.go(g)
            yield live

    def test_all_answers_behind_any_deeds(self):
        chance = random.Random(463)
        for book in random_books(150, 464):
            for x in range(book[0][0]):
                for _ in self.wander(Live(book), Follower(book), x, chance, 6):
                    pass

    def test_home_free_and_advice_without_rebook(self):
        chance = random.Random(465)
        told = [0, 0]
        for book in random_books(200, 466, 0.45):
            for x in range(book[0][0]):
                for live in self.wander(Live(book), Follower(book), x, chance, 5):
                    self.same(live.home_free(), True)
                    if live.log()[-1][1] is not None:
                        stuck_ones = [y for y in live.knowledge()
                                      if not done(book[0], end(book, y)[0])]
                        self.assertIs(live.advice() is None, len(stuck_ones) > 0)
                        told[live.advice() is None] += 1
        self.assertGreater(min(told), 100)

    def test_all_done_safely_is_a_lot_of_its_faults(self):
        chance = random.Random(467)
        for book in random_books(60, 468):
            for x in range(book[0][0]):
                for live in self.wander(Live(book), Follower(book), x, chance, 5):
                    settings = tuple(g for g, sign in live.log() if sign is not None)
                    lot = agreeing(book[0], all_faults(book[0]), x, settings)
                    self.same(live.knowledge(), lot)

    def test_advice_leads_to_a_cure(self):
        for book in random_books(200, 469, 0.7):
            for x in range(book[0][0]):
                live = Live(book)
                live.sees(book[0][3][0][x])
                while live.advice() is not None and live.advice()[0] == "look":
                    for g in live.advice()[1]:
                        live.go(g)
                        live.sees(book[0][3][g][x])
                if live.advice() is not None:
                    kind, way, r = live.advice()
                    self.assertEqual(kind, "cure")
                    for g in way:
                        live.go(g)
                        live.sees(book[0][3][g][x])
                    self.assertIn(r, book[0][2][x])
                    self.assertIn(r, live.remedies())

    def test_no_advice(self):
        live = Live(((2, 2, ((0,), (1,)), ((0, 0), (0, 1)), ((0, 1),)), (((0, 1),),)))
        self.refused(NotSeen, 0, live.advice)
        live.sees(0)
        self.same(live.advice(), None)
        self.same(live.moves(), ())
        self.same(live.remedies(), ())

    def test_great_books(self):
        live = Live((greatest_rig(), (many_lots(200),) * 200))
        live.sees(0)
        self.same(live.knowledge(), tuple(range(24)))
        self.same(live.moves(), ())
        live.rebook((greatest_rig(), ((),) * 200))
        self.same(live.moves(), tuple(range(1, 40)))
        live.go(39)
        live.sees(9)
        self.same(live.knowledge(), (1, 11, 21))


class Rebook(Strict):

    def test_what_is_seen_stays(self):
        live = Live(BARE)
        live.sees(0)
        live.go(2)
        live.sees(0)
        log, known = live.log(), live.knowledge()
        self.same(known, (0, 2))
        self.same(live.rebook(BOOK), None)
        self.same((live.log(), live.knowledge(), live.at()), (log, known, 2))
        # Who stands at 2 with fault 2 possible comes home no more.
        self.same(answers(live), (2, (0, 2), (), (), False, None, ((0, 0), (2, 0))))
        self.refused(Barred, (2,), live.go, 0)
        live.rebook(BARE)
        self.same(live.home_free(), True)
        self.same(live.moves(), (0,))
        live.go(0)

    def test_what_was_not_said_is_still_not_said(self):
        live = Live(BARE)
        live.rebook(BOOK)
        self.refused(NotSeen, 0, live.go, 1)
        self.refused(NotSeen, 0, live.advice)
        live.sees(0)
        self.same(live.moves(), (1,))

    def test_books_of_other_rigs(self):
        live = Live(BOOK)
        live.sees(0)
        ahead = answers(live)
        for thing, kind, what in WRONG_BOOKS:
            self.refused(kind, what, live.rebook, thing)
        others = (
            (replaced(RIG, 1, 4), BOOK[1]), (replaced(RIG, 2, ((0,), (1,), ())), BOOK[1]),
            (replaced(RIG, 3, RIG[3][:2] + ((0, 0, 0),)), BOOK[1]), (replaced(RIG, 4, ((0, 1),)), ((),)),
            (replaced(RIG, 3, RIG[3] + ((0, 0, 0),)), BOOK[1]),
        )
        for book in others:
            self.refused(Unlike, 0, live.rebook, book)
        self.same(answers(live), ahead)

    def test_all_answers_behind_it(self):
        chance = random.Random(471)
        homeless = 0
        for book in random_books(300, 472):
            rig = book[0]
            bare = (rig, ((),) * len(rig[4]))
            live, follower = Live(bare), Follower(bare)
            x = chance.randrange(rig[0])
            for _ in range(chance.randint(1, 5)):
                for thing in (live, follower):
                    thing.sees(rig[3][live.at()][x])
                near = live.moves()
                if near:
                    g = chance.choice(near)
                    for thing in (live, follower):
                        thing.go(g)
            for other in (book, bare, book):
                live.rebook(other)
                follower.book = other
                self.same(answers(live), follower.answers())
                homeless += not live.home_free()
        self.assertGreater(homeless, 20)


class Made(Strict):

    def test_refusals(self):
        self.refuses_wrong_books(Live)


if __name__ == "__main__":
    unittest.main()
