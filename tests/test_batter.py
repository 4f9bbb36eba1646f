"""Promise 12: batter."""

import unittest

from line import BYES, LEG_BYES, Line, NO_BALL, TOP, WIDE

NOT_IN = [0, 0, 0, 0, 0, 0, 0, 11, 11]


class Scores(unittest.TestCase):
    def after(self, *balls):
        """Runs, balls, fours, sixes of the striker (5) and then of the other (6), after balls without odd runs."""
        line = Line(balls=8).ready(5, 6, 9)
        line.must(*(line.ball(**ball) for ball in balls))
        return line.batter(0, 5)[2:6], line.batter(0, 6)[2:6]

    def test_off_the_bat(self):
        found = self.after({"runs": 4, "line": 1}, {"runs": 6, "line": 1}, {"runs": 4}, {"runs": 6}, {})
        self.assertEqual(found, ([20, 5, 1, 1], [0, 0, 0, 0]))

    def test_a_wide_is_not_faced(self):
        self.assertEqual(self.after({"kind": WIDE}, {"kind": WIDE, "runs": 4, "line": 1})[0], [0, 0, 0, 0])

    def test_a_no_ball_is_faced(self):
        self.assertEqual(self.after({"kind": NO_BALL})[0], [0, 1, 0, 0])
        self.assertEqual(self.after({"kind": NO_BALL, "runs": 2})[0], [2, 1, 0, 0])
        self.assertEqual(self.after({"kind": NO_BALL, "runs": 4, "line": 1})[0], [4, 1, 1, 0])
        self.assertEqual(self.after({"kind": NO_BALL, "runs": 6, "line": 1})[0], [6, 1, 0, 1])

    def test_byes_and_leg_byes_are_not_the_strikers(self):
        for off in (BYES, LEG_BYES):
            self.assertEqual(self.after({"off": off, "runs": 4, "line": 1}, {"off": off, "runs": 2})[0], [0, 2, 0, 0])
            self.assertEqual(self.after({"kind": NO_BALL, "off": off, "runs": 4, "line": 1})[0], [0, 1, 0, 0])

    def test_who_faced(self):
        line = Line(balls=4).ready(5, 6, 9)
        line.must(line.ball(runs=1), line.ball(runs=3), line.ball(), line.ball(runs=2))
        self.assertEqual(line.batter(0, 5)[2:4], [3, 3])
        self.assertEqual(line.batter(0, 6)[2:4], [3, 1])
        line.must(line.bowler(8), line.ball(runs=2))
        self.assertEqual(line.batter(0, 6)[2:4], [5, 2])

    def test_runs_of_a_run_out_are_the_strikers(self):
        line = Line().ready(5, 6, 9)
        line.must(line.ball(how=6, runs=1, out=1, end=0, fielder=4))
        self.assertEqual(line.batter(0, 5), [0, 1, 1, 1, 0, 0, 0, 11, 11])
        self.assertEqual(line.batter(0, 6), [0, 2, 0, 0, 0, 0, 6, 11, 4])

    def test_penalties_are_nobodys(self):
        line = Line().ready(5, 6, 9)
        line.must(line.penalty(0))
        self.assertEqual(line.batter(0, 5)[2:4], [0, 0])


class Places(unittest.TestCase):
    def test_in_the_order(self):
        line = Line()
        line.must(line.open(5, 6))
        self.assertEqual([line.batter(0, player)[1] for player in range(11)], [0, 0, 0, 0, 0, 1, 2, 0, 0, 0, 0])
        for player in (10, 0, 9, 1, 8, 2, 7, 3, 4):
            line.must(line.retire(0, 0), line.come_in(player))
        places = [line.batter(0, player)[1] for player in (5, 6, 10, 0, 9, 1, 8, 2, 7, 3, 4)]
        self.assertEqual(places, [1, 2, 3, 4, 5, 6, 7, 8, 9, 10, 11])

    def test_not_in(self):
        line = Line().ready(5, 6, 9)
        for player in (0, 4, 7, 10):
            self.assertEqual(line.batter(0, player), NOT_IN)

    def test_in_another_innings(self):
        line = Line(innings=2)
        line.must(line.open(5, 6), line.bowler(3), line.ball(how=1), line.declare(), line.open(7, 5))
        self.assertEqual(line.batter(0, 5), [0, 1, 0, 1, 0, 0, 1, 3, 11])
        self.assertEqual(line.batter(1, 5), [0, 2, 0, 0, 0, 0, 0, 11, 11])
        self.assertEqual(line.batter(0, 7), NOT_IN)
        self.assertEqual(line.batter(1, 6), NOT_IN)


class HowOut(unittest.TestCase):
    WAYS = [(0, 1, 11), (0, 2, 3), (0, 2, 0), (0, 3, 11), (0, 4, 10), (0, 5, 11), (0, 6, 3), (0, 6, 11), (0, 7, 11),
            (0, 8, 11), (1, 4, 3), (1, 5, 11), (1, 6, 0), (1, 7, 11), (2, 6, 0), (2, 7, 11), (2, 8, 11)]

    def test_each_way(self):
        for kind, how, fielder in self.WAYS:
            line = Line().ready(5, 6, 9)
            line.must(line.ball(kind=kind, how=how, fielder=fielder))
            with self.subTest(kind=kind, how=how):
                faced = 0 if kind == WIDE else 1
                bowler = 9 if how <= 5 else 11
                self.assertEqual(line.batter(0, 5), [0, 1, 0, faced, 0, 0, how, bowler, fielder])
                self.assertEqual(line.batter(0, 6), [0, 2, 0, 0, 0, 0, 0, 11, 11])

    def test_the_other(self):
        for how in (6, 7):
            for end in (0, 1):
                line = Line().ready(5, 6, 9)
                line.must(line.ball(how=how, out=1, end=end))
                self.assertEqual(line.batter(0, 5)[6], 0)
                self.assertEqual(line.batter(0, 6), [0, 2, 0, 0, 0, 0, how, 11, 11])

    def test_on_the_last_ball_of_an_over(self):
        # The over's bowler is named though nobody bowls any more.
        line = Line(balls=4).ready(5, 6, 9)
        line.over(3)
        line.must(line.ball(how=2, fielder=9))
        self.assertEqual(line.batter(0, 5), [0, 1, 0, 4, 0, 0, 2, 9, 9])

    def test_of_the_second_over(self):
        line = Line(balls=4).ready(5, 6, 9)
        line.over(4)
        line.must(line.bowler(7), line.ball(how=3))
        self.assertEqual(line.batter(0, 6), [0, 2, 0, 1, 0, 0, 3, 7, 11])

    def test_the_last_one_is_not_out(self):
        line = Line()
        line.whole_innings()
        self.assertEqual([line.batter(0, player)[6] for player in range(11)].count(0), 1)


class Going(unittest.TestCase):
    def gone(self, hurt):
        line = Line().ready(5, 6, 9)
        line.must(line.ball(runs=2), line.retire(0, hurt))
        return line

    def test_hurt(self):
        self.assertEqual(self.gone(1).batter(0, 5), [0, 1, 2, 1, 0, 0, 9, 11, 11])

    def test_out(self):
        self.assertEqual(self.gone(0).batter(0, 5), [0, 1, 2, 1, 0, 0, 10, 11, 11])

    def test_the_other(self):
        for hurt, how in ((0, 10), (1, 9)):
            line = Line().ready(5, 6, 9)
            line.must(line.retire(1, hurt))
            self.assertEqual(line.batter(0, 6), [0, 2, 0, 0, 0, 0, how, 11, 11])
            self.assertEqual(line.batter(0, 5)[6], 0)

    def test_come_in_again(self):
        line = self.gone(1)
        line.must(line.come_in(0), line.retire(1, 0), line.come_in(5))
        # The old place, what was made before, and no longer hurt.
        self.assertEqual(line.batter(0, 5), [0, 1, 2, 1, 0, 0, 0, 11, 11])
        self.assertEqual(line.batter(0, 0)[1], 3)
        line.must(line.ball(runs=1), line.ball(runs=4, line=1), line.ball(how=1), line.come_in(1))
        self.assertEqual(line.batter(0, 1)[1], 4)
        self.assertEqual(line.batter(0, 0), [0, 3, 1, 1, 0, 0, 0, 11, 11])
        self.assertEqual(line.batter(0, 5), [0, 1, 6, 3, 1, 0, 1, 9, 11])

    def test_come_in_again_and_go_hurt_again(self):
        line = self.gone(1)
        line.must(line.come_in(5), line.retire(0, 1))
        self.assertEqual(line.batter(0, 5), [0, 1, 2, 1, 0, 0, 9, 11, 11])
        line.must(line.come_in(5), line.retire(0, 0))
        self.assertEqual(line.batter(0, 5), [0, 1, 2, 1, 0, 0, 10, 11, 11])

    def test_hurt_when_the_innings_is_over(self):
        line = self.gone(1)
        line.must(line.declare())
        self.assertEqual(line.batter(0, 5)[6], 9)


class NoSuch(unittest.TestCase):
    def test_innings_and_players(self):
        line = Line()
        self.assertEqual(line.batter(0, 0), [-1])
        line.ready()
        for k, player in ((1, 0), (0, 11), (0, 12), (1, 11), (256, 0), (0, 256), (TOP, 0), (0, TOP), (TOP, TOP)):
            with self.subTest(k=k, player=player):
                self.assertEqual(line.batter(k, player), [-1])
        self.assertEqual(line.batter(0, 10), NOT_IN)
