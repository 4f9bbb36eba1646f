"""What a ball adds to the books: the batters', the bowlers', the partnerships', the innings' own."""

import unittest

from line import BYES, FAIR, LEG_BYES, Line, NO_BALL, NOBODY, WIDE


class Kept(unittest.TestCase):
    def setUp(self):
        self.line = Line(balls=4)
        self.do(1, 5, 6)

    def do(self, *call):
        self.assertEqual(self.line.call(*call), 0)

    def ball(self, runs=0, kind=FAIR, off=0, line=0, how=0, out=0, end=0, fielder=NOBODY):
        self.do(3, kind, off, runs, line, how, out, end, fielder)

    def batter(self, player):
        return tuple(self.line.batter(0, player)[1:])

    def bowling(self, player):
        return tuple(self.line.bowling(0, player)[1:])

    def extras(self):
        return tuple(self.line.total(0)[5:10])

    def listed(self, read):
        found = []
        while read(0, len(found)) != [-1]:
            found.append(tuple(read(0, len(found))[1:]))
        return found

    def falls(self):
        return self.listed(self.line.fall)

    def stands(self):
        return self.listed(self.line.stand)

    def test_off_the_bat(self):
        self.do(2, 9)
        self.ball(runs=4, line=1)
        self.ball(runs=6, line=1)
        self.ball(runs=4)
        self.ball(runs=6)
        self.assertEqual(self.batter(5), (1, 20, 4, 1, 1, 0, 11, 11))
        self.assertEqual(self.batter(6), (2, 0, 0, 0, 0, 0, 11, 11))
        self.assertEqual(self.bowling(9), (4, 0, 20, 0, 0, 0))
        self.assertEqual(self.extras(), (0, 0, 0, 0, 0))

    def test_wides(self):
        self.do(2, 9)
        self.ball(kind=WIDE)
        self.ball(kind=WIDE, runs=4, line=1)
        self.assertEqual(self.batter(5), (1, 0, 0, 0, 0, 0, 11, 11))
        self.assertEqual(self.bowling(9), (0, 0, 6, 0, 2, 0))
        self.assertEqual(self.extras(), (6, 0, 0, 0, 0))
        self.assertEqual(self.stands(), [(5, 6, 6, 0)])

    def test_no_balls(self):
        self.do(2, 9)
        self.ball(kind=NO_BALL, runs=6, line=1)
        self.ball(kind=NO_BALL, off=BYES, runs=4, line=1)
        self.ball(kind=NO_BALL, off=LEG_BYES, runs=2)
        self.assertEqual(self.batter(5), (1, 6, 3, 0, 1, 0, 11, 11))
        self.assertEqual(self.bowling(9), (0, 0, 9, 0, 0, 3))
        self.assertEqual(self.extras(), (0, 3, 4, 2, 0))
        self.assertEqual(self.stands(), [(5, 6, 15, 0)])

    def test_byes_are_not_the_bowlers(self):
        self.do(2, 9)
        self.ball(off=BYES, runs=4, line=1)
        self.ball(off=LEG_BYES, runs=2)
        self.assertEqual(self.batter(5), (1, 0, 2, 0, 0, 0, 11, 11))
        self.assertEqual(self.bowling(9), (2, 0, 0, 0, 0, 0))
        self.assertEqual(self.extras(), (0, 0, 4, 2, 0))

    def test_maidens(self):
        # Byes leave an over a maiden, a wide does not, and it is to be whole.
        self.do(2, 9)
        self.ball(off=BYES, runs=2)
        for _ in range(2):
            self.ball()
        self.assertEqual(self.bowling(9)[1], 0)
        self.ball()
        self.assertEqual(self.bowling(9)[1], 1)
        self.do(2, 8)
        self.ball(kind=WIDE)
        for _ in range(4):
            self.ball()
        self.assertEqual(self.bowling(8)[1], 0)

    def test_whose_wicket(self):
        for how, fielder in ((1, 11), (2, 3), (3, 11), (4, 3), (5, 11), (6, 3), (7, 11), (8, 11)):
            self.setUp()
            self.do(2, 9)
            self.ball(how=how, fielder=fielder)
            bowlers = how <= 5
            self.assertEqual(self.batter(5)[5:], (how, 9 if bowlers else 11, fielder))
            self.assertEqual(self.bowling(9)[3], 1 if bowlers else 0)

    def test_runs_of_a_run_out_are_the_strikers(self):
        self.do(2, 9)
        self.ball(how=6, runs=1, out=1, end=0, fielder=4)
        self.assertEqual(self.batter(5), (1, 1, 1, 0, 0, 0, 11, 11))
        self.assertEqual(self.batter(6), (2, 0, 0, 0, 0, 6, 11, 4))

    def test_falls(self):
        self.do(2, 9)
        self.ball(runs=2)
        self.ball(how=6, runs=1)
        self.do(4, 0)
        self.ball(kind=WIDE, how=5)
        self.do(4, 1)
        self.do(6, 0)
        self.do(5, 1, 0)
        self.assertEqual(self.falls(), [(3, 5, 2), (4, 0, 2), (9, 6, 2)])
        self.assertEqual(self.line.total(0)[3], 3)

    def test_going(self):
        self.do(5, 0, 1)
        self.assertEqual(self.batter(5)[5:], (9, 11, 11))
        self.do(4, 2)
        self.do(5, 1, 0)
        self.assertEqual(self.batter(6)[5:], (10, 11, 11))
        self.do(4, 5)
        self.assertEqual(self.batter(5), (1, 0, 0, 0, 0, 0, 11, 11))
        self.assertEqual(self.batter(2)[0], 3)
        self.assertEqual(self.line.total(0)[3], 1)

    def test_partnerships(self):
        self.do(2, 9)
        self.ball(runs=1)
        self.ball(kind=WIDE, runs=1)
        self.do(6, 0)
        self.ball(how=1)
        self.do(4, 2)
        self.ball(off=BYES, runs=2)
        self.do(5, 1, 1)
        self.do(4, 3)
        self.assertEqual(self.stands(), [(5, 6, 3, 2), (6, 2, 2, 1), (2, 3, 0, 0)])

    def test_penalties(self):
        self.do(6, 0)
        self.do(6, 1)
        self.assertEqual(self.extras(), (0, 0, 0, 0, 5))
        self.assertEqual(self.line.total(0)[2], 5)
