"""Promise 11."""

import unittest

from line import Line, NO_BALL, WIDE


class Now(unittest.TestCase):
    def test_before_the_first_innings(self):
        line = Line()
        self.assertEqual(line.now(), [-2])
        line.must(line.penalty(0))
        self.assertEqual(line.now(), [-2])

    def test_before_the_first_innings_of_another_match(self):
        line = Line().ready()
        line.must(line.begin(1, 0, 6, 0, 0))
        self.assertEqual(line.now(), [-2])

    def test_nobody_bowls_yet(self):
        line = Line()
        line.must(line.open(7, 3))
        self.assertEqual(line.now(), [0, 1, 0, 7, 3, 11, 0, 0, 0])

    def test_an_over_goes_on(self):
        line = Line().ready(7, 3, 10)
        self.assertEqual(line.now(), [0, 1, 0, 7, 3, 10, 0, 0, 0])
        line.must(line.ball(runs=1))
        self.assertEqual(line.now(), [0, 1, 0, 3, 7, 10, 1, 1, 0])
        line.must(line.ball(kind=WIDE, runs=2), line.ball(kind=NO_BALL), line.penalty(0))
        self.assertEqual(line.now(), [0, 1, 0, 3, 7, 10, 1, 10, 0])

    def test_nobody_bowls_between_overs(self):
        line = Line(balls=4).ready(7, 3, 10)
        line.over(4)
        self.assertEqual(line.now(), [0, 1, 0, 3, 7, 11, 4, 0, 0])
        line.must(line.bowler(9))
        self.assertEqual(line.now(), [0, 1, 0, 3, 7, 9, 4, 0, 0])

    def test_an_end_is_empty(self):
        line = Line(balls=4).ready(7, 3, 10)
        line.must(line.ball(how=1))
        self.assertEqual(line.now(), [0, 1, 0, 11, 3, 10, 1, 0, 1])
        line.must(line.come_in(0))
        self.assertEqual(line.now(), [0, 1, 0, 0, 3, 10, 1, 0, 1])
        line.must(line.ball(how=6, runs=1, out=0, end=1))
        self.assertEqual(line.now(), [0, 1, 0, 3, 11, 10, 2, 1, 2])
        line.must(line.come_in(1), line.retire(1, 1))
        self.assertEqual(line.now(), [0, 1, 0, 3, 11, 10, 2, 1, 2])
        line.must(line.come_in(2), line.retire(0, 0))
        self.assertEqual(line.now(), [0, 1, 0, 11, 2, 10, 2, 1, 3])

    def test_the_empty_end_changes_after_an_over(self):
        line = Line(balls=4).ready(7, 3, 10)
        line.over(3)
        line.must(line.ball(how=1))
        self.assertEqual(line.now(), [0, 1, 0, 3, 11, 11, 4, 0, 1])
        line.must(line.come_in(5))
        self.assertEqual(line.now(), [0, 1, 0, 3, 5, 11, 4, 0, 1])

    def test_runs_and_end_of_a_run_out(self):
        for out in (0, 1):
            left = (3, 7)[out]
            for end in (0, 1):
                line = Line().ready(7, 3, 10)
                line.must(line.ball(how=6, runs=1, out=out, end=end))
                ends = [left, left]
                ends[end] = 11
                self.assertEqual(line.now()[3:5], ends)


class AfterTheEnd(unittest.TestCase):
    def test_of_an_innings(self):
        line = Line(overs=1, balls=4).ready(7, 3, 10)
        line.must(line.ball(runs=3))
        line.over(3)
        self.assertEqual(line.now(), [0, 1, 0, 7, 3, 11, 4, 3, 0])
        line.must(line.open(2, 4))
        self.assertEqual(line.now(), [0, 2, 1, 2, 4, 11, 0, 0, 0])

    def test_of_an_innings_closed_within_an_over(self):
        # Closing sends nobody away: the book stays as it was at the last ball.
        line = Line().ready(7, 3, 10)
        line.must(line.ball(runs=3), line.declare())
        self.assertEqual(line.now(), [0, 1, 0, 3, 7, 10, 1, 3, 0])

    def test_of_all_wickets(self):
        line = Line()
        line.whole_innings(2)
        self.assertEqual(line.now(), [0, 1, 0, 11, 1, 10, 0, 2, 10])

    def test_of_the_match(self):
        line = Line(balls=4)
        line.whole_innings(2)
        line.ready(7, 3, 10)
        line.must(line.ball(runs=1), line.ball(runs=2))
        self.assertEqual(line.now(), [0, 2, 1, 3, 7, 10, 2, 3, 0])

    def test_when_time_is_up(self):
        line = Line().ready(7, 3, 10)
        line.must(line.retire(0, 1), line.draw())
        self.assertEqual(line.now(), [0, 1, 0, 11, 3, 10, 0, 0, 0])


class Innings(unittest.TestCase):
    def test_how_many_and_whose(self):
        line = Line(innings=2)
        for opened, side in ((1, 0), (2, 1), (3, 0), (4, 1)):
            line.must(line.open(opened, 0))
            self.assertEqual(line.now()[1:5], [opened, side, opened, 0])
            line.must(line.declare())
            self.assertEqual(line.now()[1:5], [opened, side, opened, 0])

    def test_followed_on(self):
        line = Line(innings=2, follow=1)
        line.whole_innings(1)
        line.whole_innings(0)
        line.must(line.follow())
        self.assertEqual(line.now()[1:3], [2, 1])
        line.must(line.open())
        self.assertEqual(line.now()[1:3], [3, 1])
        line.must(line.bowler(3))
        line.singles(2)
        line.must(line.declare(), line.open())
        self.assertEqual(line.now()[1:3], [4, 0])
