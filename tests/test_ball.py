"""Promise 4: when a ball may be told, who faces after it, what it counts."""

import unittest

from line import BYES, FAIR, LEG_BYES, Line, NO_BALL, WIDE


class Refused(unittest.TestCase):
    def test_no_innings(self):
        line = Line()
        self.assertEqual(line.ball(), -2)
        line.whole_innings()
        self.assertEqual(line.ball(), -2)

    def test_after_the_match(self):
        line = Line().ready()
        line.must(line.draw())
        self.assertEqual(line.ball(), -2)

    def test_nobody_bowls(self):
        line = Line(balls=4)
        line.must(line.open())
        self.assertEqual(line.ball(), -2)
        line.must(line.bowler(10))
        line.over(4)
        for kind in (FAIR, WIDE, NO_BALL):
            self.assertEqual(line.ball(kind=kind), -2)

    def test_an_end_is_empty(self):
        for end in (0, 1):
            line = Line().ready()
            line.must(line.ball(how=6, end=end))
            self.assertEqual(line.ball(), -2)
            line.must(line.come_in(2))
            self.assertEqual(line.ball(), 0)

    def test_wrong_comes_before_refused(self):
        line = Line()
        self.assertEqual(line.ball(kind=3), -1)
        line.must(line.open())
        self.assertEqual(line.ball(runs=10), -1)
        line.must(line.bowler(10), line.retire(0, 1))
        self.assertEqual(line.ball(line=1), -1)

    def test_wrong_changes_nothing(self):
        line = Line(balls=4).ready(0, 1)
        self.assertEqual(line.ball(runs=3, line=1), -1)
        self.assertEqual(line.ball(how=1, runs=1), -1)
        self.assertEqual(line.striker(0, 1), 0)
        line.over(4)
        self.assertEqual(line.ball(), -2)


class WhoFaces(unittest.TestCase):
    def after(self, **numbers):
        line = Line().ready(0, 1)
        line.must(line.ball(**numbers))
        return line.striker(0, 1)

    def test_odd_and_even_runs(self):
        for kind in (FAIR, WIDE, NO_BALL):
            for runs in range(10):
                with self.subTest(kind=kind, runs=runs):
                    self.assertEqual(self.after(kind=kind, runs=runs), runs % 2)

    def test_byes_and_leg_byes(self):
        for kind in (FAIR, NO_BALL):
            for off in (BYES, LEG_BYES):
                for runs in range(1, 10):
                    self.assertEqual(self.after(kind=kind, off=off, runs=runs), runs % 2)

    def test_over_the_line(self):
        for kind in (FAIR, WIDE, NO_BALL):
            self.assertEqual(self.after(kind=kind, runs=4, line=1), 0)
        self.assertEqual(self.after(runs=6, line=1), 0)
        self.assertEqual(self.after(off=BYES, runs=4, line=1), 0)

    def test_last_fair_ball_of_an_over(self):
        for runs in range(10):
            line = Line(balls=4).ready(0, 1)
            line.over(3)
            line.must(line.ball(runs=runs))
            self.assertEqual(line.striker(0, 1), 1 - runs % 2)

    def test_last_fair_ball_behind_others(self):
        line = Line(balls=4).ready(0, 1)
        line.over(3)
        line.must(line.ball(kind=WIDE), line.ball(kind=NO_BALL))
        self.assertEqual(line.striker(0, 1), 0)
        line.must(line.ball())
        self.assertEqual(line.striker(0, 1), 1)


class AfterAWicket(unittest.TestCase):
    FIELDERS = {2: 10, 4: 10}

    def lose(self, last_of_over, **numbers):
        """Players 0 and 1 bat, a wicket falls, player 2 comes in."""
        line = Line(balls=4).ready(0, 1)
        line.over(3 if last_of_over else 2)
        line.must(line.ball(**numbers), line.come_in(2))
        return line

    def test_at_the_strikers_end(self):
        for how in (1, 2, 3, 4, 5, 8):
            fielder = self.FIELDERS.get(how, 11)
            with self.subTest(how=how):
                self.assertEqual(self.lose(False, how=how, fielder=fielder).striker(1, 2), 2)
                self.assertEqual(self.lose(True, how=how, fielder=fielder).striker(1, 2), 1)

    def test_at_either_end(self):
        # Whatever runs were made: only the end that is told tells who stands where.
        for how in (6, 7):
            for runs in (0, 1, 2, 3):
                for out in (0, 1):
                    left = 1 - out
                    with self.subTest(how=how, runs=runs, out=out):
                        self.assertEqual(self.lose(False, how=how, runs=runs, out=out, end=0).striker(left, 2), 2)
                        self.assertEqual(self.lose(False, how=how, runs=runs, out=out, end=1).striker(left, 2), left)
                        self.assertEqual(self.lose(True, how=how, runs=runs, out=out, end=0).striker(left, 2), left)
                        self.assertEqual(self.lose(True, how=how, runs=runs, out=out, end=1).striker(left, 2), 2)

    def test_who_is_out(self):
        for how in (6, 7):
            for out in (0, 1):
                for kind in (FAIR, WIDE, NO_BALL):
                    line = Line().ready(0, 1)
                    line.must(line.ball(kind=kind, how=how, out=out))
                    self.assertEqual(line.come_in(0), -2)
                    self.assertEqual(line.come_in(1), -2)
                    line.must(line.come_in(2), line.retire(0, 1))
                    # At the striker's end was 2; who is left is still batting.
                    self.assertEqual(line.come_in(1 - out), -2)
                    self.assertEqual(line.come_in(2), 0)

    def test_each_wicket_counts(self):
        ways = [(0, 1, 11), (0, 2, 3), (0, 3, 11), (0, 4, 3), (0, 5, 11), (0, 6, 11), (0, 7, 11), (0, 8, 11),
                (1, 4, 3), (1, 5, 11), (1, 6, 0), (1, 7, 11), (2, 6, 0), (2, 7, 11), (2, 8, 11)]
        for kind, how, fielder in ways:
            line = Line().ready()
            line.lose_wickets(9, 2)
            with self.subTest(kind=kind, how=how):
                self.assertTrue(line.goes_on())
                line.must(line.ball(kind=kind, how=how, fielder=fielder))
                self.assertFalse(line.goes_on())


class Runs(unittest.TestCase):
    def runs_of(self, **numbers):
        line = Line().ready()
        line.must(line.ball(**numbers), line.declare())
        return line.lead()

    def test_fair(self):
        for runs in range(10):
            self.assertEqual(self.runs_of(runs=runs), runs)

    def test_wide_and_no_ball_count_one_more(self):
        for kind in (WIDE, NO_BALL):
            for runs in range(10):
                self.assertEqual(self.runs_of(kind=kind, runs=runs), runs + 1)

    def test_byes_and_leg_byes(self):
        for off in (BYES, LEG_BYES):
            self.assertEqual(self.runs_of(off=off, runs=3), 3)
            self.assertEqual(self.runs_of(kind=NO_BALL, off=off, runs=3), 4)

    def test_over_the_line(self):
        self.assertEqual(self.runs_of(runs=4, line=1), 4)
        self.assertEqual(self.runs_of(runs=6, line=1), 6)
        self.assertEqual(self.runs_of(kind=WIDE, runs=4, line=1), 5)
        self.assertEqual(self.runs_of(kind=NO_BALL, runs=6, line=1), 7)

    def test_of_a_wicket(self):
        self.assertEqual(self.runs_of(how=6, runs=2), 2)
        self.assertEqual(self.runs_of(how=7, runs=3, out=1, end=1), 3)
        self.assertEqual(self.runs_of(how=6, kind=WIDE, runs=2), 3)
        self.assertEqual(self.runs_of(how=5, kind=WIDE), 1)
        self.assertEqual(self.runs_of(how=1), 0)

    def test_they_add_up(self):
        line = Line().ready()
        line.must(line.ball(runs=3), line.ball(kind=WIDE, runs=2), line.ball(off=BYES, runs=4, line=1),
                  line.ball(kind=NO_BALL, runs=6, line=1), line.penalty(0), line.declare())
        self.assertEqual(line.lead(), 3 + 3 + 4 + 7 + 5)
