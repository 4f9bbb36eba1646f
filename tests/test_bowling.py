"""Promise 12: bowling."""

import unittest

from line import BYES, LEG_BYES, Line, NO_BALL, TOP, WIDE


class Numbers(unittest.TestCase):
    def after(self, **numbers):
        """Fair balls, maidens, runs, wickets, wides, no balls after one ball."""
        line = Line().ready(0, 1, 9)
        line.must(line.ball(**numbers))
        return line.bowling(0, 9)

    def test_off_the_bat(self):
        self.assertEqual(self.after(), [0, 1, 0, 0, 0, 0, 0])
        self.assertEqual(self.after(runs=3), [0, 1, 0, 3, 0, 0, 0])
        self.assertEqual(self.after(runs=6, line=1), [0, 1, 0, 6, 0, 0, 0])

    def test_wides_are_how_many(self):
        self.assertEqual(self.after(kind=WIDE), [0, 0, 0, 1, 0, 1, 0])
        self.assertEqual(self.after(kind=WIDE, runs=4, line=1), [0, 0, 0, 5, 0, 1, 0])

    def test_no_balls_are_how_many(self):
        self.assertEqual(self.after(kind=NO_BALL), [0, 0, 0, 1, 0, 0, 1])
        self.assertEqual(self.after(kind=NO_BALL, runs=4), [0, 0, 0, 5, 0, 0, 1])

    def test_byes_and_leg_byes_are_not_the_bowlers(self):
        for off in (BYES, LEG_BYES):
            self.assertEqual(self.after(off=off, runs=4, line=1), [0, 1, 0, 0, 0, 0, 0])
            self.assertEqual(self.after(kind=NO_BALL, off=off, runs=3), [0, 0, 0, 1, 0, 0, 1])

    def test_wickets_of_1_to_5(self):
        for kind, how, fielder in ((0, 1, 11), (0, 2, 3), (0, 3, 11), (0, 4, 3), (0, 5, 11), (0, 6, 3), (0, 7, 11),
                                   (0, 8, 11), (1, 4, 3), (1, 5, 11), (1, 6, 3), (1, 7, 11), (2, 6, 3), (2, 7, 11),
                                   (2, 8, 11)):
            with self.subTest(kind=kind, how=how):
                self.assertEqual(self.after(kind=kind, how=how, fielder=fielder)[4], 1 if how <= 5 else 0)

    def test_going_and_penalties_are_not_the_bowlers(self):
        line = Line().ready(0, 1, 9)
        line.must(line.retire(0, 0), line.penalty(0), line.penalty(1))
        self.assertEqual(line.bowling(0, 9), [0, 0, 0, 0, 0, 0, 0])

    def test_each_bowler(self):
        line = Line(balls=4).ready(0, 1, 9)
        line.must(line.ball(runs=2), line.ball(how=1), line.come_in(2), line.ball(), line.ball(runs=4, line=1))
        line.must(line.bowler(8), line.ball(runs=1), line.ball(kind=WIDE), line.ball(), line.ball(), line.ball())
        line.must(line.bowler(9), line.ball(how=3))
        self.assertEqual(line.bowling(0, 9), [0, 5, 0, 6, 2, 0, 0])
        self.assertEqual(line.bowling(0, 8), [0, 4, 0, 2, 0, 1, 0])
        self.assertEqual(line.bowling(0, 7), [0, 0, 0, 0, 0, 0, 0])

    def test_each_innings(self):
        line = Line().ready(0, 1, 9)
        line.must(line.ball(runs=2), line.declare(), line.open(), line.bowler(8), line.ball(runs=1))
        self.assertEqual(line.bowling(0, 9)[1:4], [1, 0, 2])
        self.assertEqual(line.bowling(0, 8)[1:4], [0, 0, 0])
        self.assertEqual(line.bowling(1, 9)[1:4], [0, 0, 0])
        self.assertEqual(line.bowling(1, 8)[1:4], [1, 0, 1])


class Maidens(unittest.TestCase):
    def over_of(self, *balls):
        line = Line(balls=4).ready(0, 1, 9)
        line.must(*(line.ball(**ball) for ball in balls))
        return line

    def check(self, maidens, *balls):
        self.assertEqual(self.over_of(*balls).bowling(0, 9)[2], maidens)

    def test_no_runs(self):
        self.check(1, {}, {}, {}, {})

    def test_an_over_that_is_not_whole(self):
        self.check(0)
        self.check(0, {}, {}, {})
        line = self.over_of({}, {}, {})
        line.must(line.declare())
        self.assertEqual(line.bowling(0, 9)[2], 0)

    def test_runs_off_the_bat(self):
        for place in range(4):
            balls = [{}, {}, {}, {}]
            balls[place] = {"runs": 2}
            self.check(0, *balls)

    def test_byes_leave_it_one(self):
        self.check(1, {"off": BYES, "runs": 4, "line": 1}, {}, {"off": LEG_BYES, "runs": 1}, {"off": BYES, "runs": 9})

    def test_a_wide_or_a_no_ball_does_not(self):
        self.check(0, {}, {}, {"kind": WIDE}, {}, {})
        self.check(0, {}, {}, {"kind": NO_BALL}, {}, {})
        self.check(0, {}, {"kind": NO_BALL, "off": BYES, "runs": 2}, {}, {}, {})

    def test_penalties_leave_it_one(self):
        line = self.over_of({}, {}, {})
        line.must(line.penalty(0), line.ball())
        self.assertEqual(line.bowling(0, 9)[2], 1)

    def test_wickets_leave_it_one(self):
        line = self.over_of({"how": 1})
        line.must(line.come_in(2), line.ball(), line.retire(0, 0), line.come_in(3), line.ball(), line.ball(how=6))
        self.assertEqual(line.bowling(0, 9), [0, 4, 1, 0, 1, 0, 0])

    def test_the_ball_that_ends_the_innings(self):
        line = Line(overs=1, balls=4).ready(0, 1, 9)
        line.over(4)
        self.assertEqual(line.bowling(0, 9)[2], 1)
        line = Line(balls=4).ready(0, 1, 9)
        line.over(3)
        line.lose_wickets(9, 2)
        line.must(line.ball(how=1))
        self.assertEqual(line.bowling(0, 9), [0, 4, 1, 0, 1, 0, 0])

    def test_several(self):
        line = Line(balls=4).ready(0, 1, 9)
        line.over(4)
        line.must(line.bowler(8), line.ball(runs=4))
        line.over(3)
        line.must(line.bowler(9))
        line.over(4)
        line.must(line.bowler(8))
        line.over(4)
        self.assertEqual(line.bowling(0, 9)[2], 2)
        self.assertEqual(line.bowling(0, 8)[2], 1)

    def test_each_length_of_an_over(self):
        for balls in (4, 5, 6, 7, 8):
            line = Line(balls=balls).ready(0, 1, 9)
            line.over(balls - 1)
            self.assertEqual(line.bowling(0, 9)[1:3], [balls - 1, 0])
            line.over(1)
            self.assertEqual(line.bowling(0, 9)[1:3], [balls, 1])


class NoSuch(unittest.TestCase):
    def test_innings_and_players(self):
        line = Line()
        self.assertEqual(line.bowling(0, 0), [-1])
        line.ready()
        for k, player in ((1, 0), (0, 11), (0, 12), (1, 11), (256, 0), (0, 256), (TOP, 0), (0, TOP), (TOP, TOP)):
            with self.subTest(k=k, player=player):
                self.assertEqual(line.bowling(k, player), [-1])
        self.assertEqual(line.bowling(0, 0), [0, 0, 0, 0, 0, 0, 0])
