"""Promise 4: which eight numbers are a ball."""

import itertools
import unittest

from line import BYES, FAIR, LEG_BYES, Line, NO_BALL, WIDE
from scorebook.book import answers

PLAYERS = range(11)


def balls_by_the_table():
    """All balls that there are, put together row by row (not by asking of each whether it is one)."""
    found = set()
    ways = {FAIR: range(1, 9), WIDE: range(4, 8), NO_BALL: range(6, 9)}
    for kind in (FAIR, WIDE, NO_BALL):
        scores = [(0, runs, 0) for runs in range(10)]
        fours_and_sixes = [(0, 4, 1)]
        if kind != WIDE:
            scores += [(off, runs, 0) for off in (BYES, LEG_BYES) for runs in range(1, 10)]
            fours_and_sixes += [(0, 6, 1), (BYES, 4, 1), (LEG_BYES, 4, 1)]
        for score in scores + fours_and_sixes:
            found.add((kind, *score, 0, 0, 0, 11))
        for how in ways[kind]:
            fielders = list(PLAYERS) if how in (2, 4) else [*PLAYERS, 11] if how == 6 else [11]
            for fielder in fielders:
                if how in (6, 7):
                    for score, out, end in itertools.product(scores, (0, 1), (0, 1)):
                        found.add((kind, *score, how, out, end, fielder))
                else:
                    found.add((kind, 0, 0, 0, how, 0, 0, fielder))
    return found


def verdicts(balls):
    """What is answered of each while no innings is going on: -1 of what is no ball, else -2."""
    found = []
    for start in range(0, len(balls), 2900):
        calls = [0, 1, 0, 6, 0, 0]
        for ball in balls[start:start + 2900]:
            calls.extend((3, *ball))
        found.extend(answers(calls)[3::2])
    return found


class Table(unittest.TestCase):
    def test_every_number_up_to_its_edge_and_beyond(self):
        tried = list(itertools.product(range(4), range(4), range(11), range(3), range(10), range(3), range(3),
                                       (0, 10, 11, 12)))
        allowed = balls_by_the_table()
        for ball, verdict in zip(tried, verdicts(tried)):
            if verdict != (-2 if ball in allowed else -1):
                self.fail(f"{ball} answered {verdict}")

    def test_every_ball_there_is(self):
        allowed = sorted(balls_by_the_table())
        self.assertEqual(set(verdicts(allowed)), {-2})

    def test_every_ball_there_is_counts(self):
        for ball in sorted(balls_by_the_table()):
            if ball[7] in (0, 10, 11):
                found = answers([0, 1, 0, 6, 0, 0, 1, 0, 1, 2, 10, 3, *ball])
                self.assertEqual(found[-2:], [1, 0], ball)

    def test_large_numbers(self):
        for place, number in itertools.product(range(8), (128, 254, 255)):
            ball = [0, 0, 0, 0, 0, 0, 0, 11]
            ball[place] = number
            self.assertEqual(verdicts([ball]), [-1], ball)


class ByHand(unittest.TestCase):
    """The same edges as the document names them, one by one."""

    def check(self, answer, **numbers):
        with self.subTest(numbers=numbers):
            self.assertEqual(Line().ready().ball(**numbers), answer)

    def test_runs(self):
        self.check(0, runs=9)
        self.check(-1, runs=10)

    def test_over_the_line(self):
        for kind in (FAIR, NO_BALL):
            self.check(0, kind=kind, runs=4, line=1)
            self.check(0, kind=kind, runs=6, line=1)
            self.check(0, kind=kind, off=BYES, runs=4, line=1)
            self.check(-1, kind=kind, off=BYES, runs=6, line=1)
            self.check(-1, kind=kind, off=LEG_BYES, runs=6, line=1)
        self.check(0, kind=WIDE, runs=4, line=1)
        self.check(-1, kind=WIDE, runs=6, line=1)
        for runs in (0, 1, 2, 3, 5, 7, 8, 9):
            self.check(-1, runs=runs, line=1)
        self.check(0, runs=4)
        self.check(0, runs=6)

    def test_byes(self):
        for off in (BYES, LEG_BYES):
            self.check(-1, off=off)
            self.check(0, off=off, runs=1)
            self.check(-1, kind=WIDE, off=off, runs=1)
            self.check(-1, kind=NO_BALL, off=off)
            self.check(0, kind=NO_BALL, off=off, runs=1)
        self.check(-1, off=3, runs=1)

    def test_ways_of_being_out(self):
        fielders = {2: 10, 4: 10, 6: 10}
        allowed = {FAIR: (1, 2, 3, 4, 5, 6, 7, 8), WIDE: (4, 5, 6, 7), NO_BALL: (6, 7, 8)}
        for kind, how in itertools.product(allowed, range(1, 9)):
            answer = 0 if how in allowed[kind] else -1
            self.check(answer, kind=kind, how=how, fielder=fielders.get(how, 11))
        self.check(-1, how=9)

    def test_no_run_of_1_to_5_and_8(self):
        for how in (1, 2, 3, 4, 5, 8):
            self.check(-1, how=how, runs=1, fielder=0 if how in (2, 4) else 11)
        for how in (6, 7):
            self.check(0, how=how, runs=1)
            self.check(0, how=how, runs=4)

    def test_nobody_is_out_over_the_line(self):
        for how in (6, 7):
            self.check(-1, how=how, runs=4, line=1)

    def test_who_and_where(self):
        for out, end in ((0, 1), (1, 0), (1, 1)):
            for how in (0, 1, 2, 3, 4, 5, 8):
                self.check(-1, how=how, out=out, end=end, fielder=0 if how in (2, 4) else 11)
            for how in (6, 7):
                self.check(0, how=how, out=out, end=end)

    def test_fielder(self):
        for how, last in ((2, 10), (4, 10), (6, 11)):
            self.check(0, how=how, fielder=0)
            self.check(0, how=how, fielder=last)
            self.check(-1, how=how, fielder=last + 1)
        for how in (0, 1, 3, 5, 7, 8):
            for fielder in (0, 10, 12):
                self.check(-1, how=how, fielder=fielder)
