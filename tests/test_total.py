"""Promise 12: total."""

import unittest

from line import BYES, LEG_BYES, Line, NO_BALL, TOP, WIDE


class Numbers(unittest.TestCase):
    def after(self, **numbers):
        """Runs, wickets, fair balls, wides, no balls, byes, leg byes, penalties after one ball."""
        line = Line().ready()
        line.must(line.ball(**numbers))
        return line.total(0)[2:10]

    def test_just_opened(self):
        line = Line()
        line.must(line.open())
        self.assertEqual(line.total(0), [0, 0, 0, 0, 0, 0, 0, 0, 0, 0, 0])

    def test_off_the_bat(self):
        self.assertEqual(self.after(), [0, 0, 1, 0, 0, 0, 0, 0])
        self.assertEqual(self.after(runs=9), [9, 0, 1, 0, 0, 0, 0, 0])
        self.assertEqual(self.after(runs=6, line=1), [6, 0, 1, 0, 0, 0, 0, 0])

    def test_wides_are_counted_in_runs(self):
        self.assertEqual(self.after(kind=WIDE), [1, 0, 0, 1, 0, 0, 0, 0])
        self.assertEqual(self.after(kind=WIDE, runs=2), [3, 0, 0, 3, 0, 0, 0, 0])
        self.assertEqual(self.after(kind=WIDE, runs=4, line=1), [5, 0, 0, 5, 0, 0, 0, 0])

    def test_no_balls_count_one_each(self):
        self.assertEqual(self.after(kind=NO_BALL), [1, 0, 0, 0, 1, 0, 0, 0])
        self.assertEqual(self.after(kind=NO_BALL, runs=6, line=1), [7, 0, 0, 0, 1, 0, 0, 0])
        self.assertEqual(self.after(kind=NO_BALL, off=BYES, runs=3), [4, 0, 0, 0, 1, 3, 0, 0])
        self.assertEqual(self.after(kind=NO_BALL, off=LEG_BYES, runs=3), [4, 0, 0, 0, 1, 0, 3, 0])

    def test_byes_and_leg_byes(self):
        self.assertEqual(self.after(off=BYES, runs=4, line=1), [4, 0, 1, 0, 0, 4, 0, 0])
        self.assertEqual(self.after(off=LEG_BYES, runs=1), [1, 0, 1, 0, 0, 0, 1, 0])

    def test_wickets(self):
        for how, fielder in ((1, 11), (2, 3), (3, 11), (4, 3), (5, 11), (6, 3), (7, 11), (8, 11)):
            self.assertEqual(self.after(how=how, fielder=fielder), [0, 1, 1, 0, 0, 0, 0, 0])
        self.assertEqual(self.after(how=6, runs=3), [3, 1, 1, 0, 0, 0, 0, 0])
        self.assertEqual(self.after(how=4, kind=WIDE, fielder=3), [1, 1, 0, 1, 0, 0, 0, 0])
        self.assertEqual(self.after(how=7, kind=NO_BALL, off=BYES, runs=2), [3, 1, 0, 0, 1, 2, 0, 0])

    def test_going(self):
        for hurt, wickets in ((0, 1), (1, 0)):
            line = Line()
            line.must(line.open(), line.retire(0, hurt))
            self.assertEqual(line.total(0)[2:10], [0, wickets, 0, 0, 0, 0, 0, 0])

    def test_they_add_up(self):
        line = Line(balls=4).ready()
        line.must(line.ball(runs=3), line.ball(kind=WIDE, runs=1), line.ball(kind=WIDE), line.ball(kind=NO_BALL),
                  line.ball(kind=NO_BALL, off=BYES, runs=2), line.ball(off=BYES, runs=1),
                  line.ball(off=LEG_BYES, runs=2), line.ball(how=6, runs=1), line.penalty(0), line.penalty(0))
        self.assertEqual(line.total(0), [0, 0, 3 + 2 + 1 + 1 + 3 + 1 + 2 + 1 + 10, 1, 4, 3, 2, 3, 2, 10, 0])


class Penalties(unittest.TestCase):
    def test_to_the_innings_that_goes_on(self):
        line = Line().ready()
        line.must(line.ball(runs=2), line.penalty(0))
        self.assertEqual(line.total(0)[2:10], [7, 0, 1, 0, 0, 0, 0, 5])

    def test_owed(self):
        line = Line().ready()
        line.must(line.penalty(1), line.penalty(1))
        self.assertEqual(line.total(0)[2:10], [0, 0, 0, 0, 0, 0, 0, 0])
        line.must(line.ball(runs=3), line.penalty(1), line.declare(), line.open())
        self.assertEqual(line.total(1), [0, 1, 15, 0, 0, 0, 0, 0, 0, 15, 4])
        self.assertEqual(line.total(0)[2], 3)

    def test_owed_before_the_first_innings(self):
        line = Line()
        line.must(line.penalty(0), line.penalty(1), line.open())
        self.assertEqual(line.total(0)[2:10], [5, 0, 0, 0, 0, 0, 0, 5])

    def test_to_the_last_innings_of_the_side(self):
        line = Line(innings=2, follow=1)
        line.whole_innings(3)
        line.must(line.penalty(0))
        line.whole_innings(1)
        line.must(line.penalty(0), line.penalty(1), line.follow(), line.penalty(1))
        self.assertEqual([line.total(k)[9] for k in (0, 1)], [10, 10])
        line.must(line.open(), line.penalty(0), line.penalty(1), line.penalty(1))
        self.assertEqual([line.total(k)[9] for k in (0, 1, 2)], [15, 10, 10])
        line.must(line.declare(), line.penalty(1), line.penalty(0))
        self.assertEqual([line.total(k)[9] for k in (0, 1, 2)], [20, 10, 15])


class Whose(unittest.TestCase):
    def test_in_turn(self):
        line = Line(innings=2)
        for k, side in enumerate((0, 1, 0, 1)):
            line.must(line.open())
            self.assertEqual(line.total(k)[1], side)
            line.must(line.declare())

    def test_followed_on(self):
        line = Line(innings=2, follow=1)
        line.whole_innings(1)
        line.whole_innings(0)
        line.must(line.follow(), line.open())
        self.assertEqual([line.total(k)[1] for k in range(3)], [0, 1, 1])
        line.must(line.bowler(3))
        line.singles(2)
        line.must(line.declare(), line.open())
        self.assertEqual([line.total(k)[1] for k in range(4)], [0, 1, 1, 0])


class HowItEnded(unittest.TestCase):
    def check(self, line, k, how):
        self.assertEqual(line.total(k)[10], how)

    def test_goes_on(self):
        line = Line().ready()
        line.must(line.retire(0, 0))
        self.check(line, 0, 0)

    def test_each_way(self):
        line = Line(innings=2, balls=4)
        line.whole_innings(2)
        self.check(line, 0, 1)
        line.must(line.open(), line.declare())
        self.check(line, 1, 2)
        line.must(line.open(), line.draw())
        self.check(line, 2, 5)
        self.check(line, 0, 1)
        self.check(line, 1, 2)
        line = Line(overs=1, balls=4).ready()
        line.over(4)
        self.check(line, 0, 3)
        line.ready()
        line.singles(1)
        self.check(line, 1, 4)

    def test_only_who_went_hurt_may_come_in(self):
        for overs in (0, 3):
            line = Line(overs=overs)
            line.must(line.open())
            line.lose_wickets(9, 2)
            line.must(line.retire(0, 1))
            self.check(line, 0, 0)
            line.must(line.declare())
            self.check(line, 0, 1)

    def test_the_last_ball_of_it_all_counts(self):
        line = Line(overs=1, balls=4)
        line.whole_innings(2)
        line.ready()
        line.must(line.ball(runs=1), line.ball(runs=6, line=1))
        self.assertEqual(line.total(1), [0, 1, 7, 0, 2, 0, 0, 0, 0, 0, 4])


class NoSuch(unittest.TestCase):
    def test_innings(self):
        line = Line(innings=2)
        for opened in range(4):
            for k in (opened, opened + 1, 4, 255, 256, TOP):
                self.assertEqual(line.total(k), [-1])
            line.must(line.open())
            self.assertEqual(line.total(opened)[0], 0)
            line.must(line.declare())
        self.assertEqual(line.total(4), [-1])
        self.assertEqual(line.total(TOP), [-1])
