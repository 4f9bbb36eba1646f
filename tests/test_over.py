"""Promise 13, and how an over is written."""

import unittest

from line import BYES, LEG_BYES, Line, NO_BALL, TOP, WIDE


class OneBall(unittest.TestCase):
    def check(self, text, **numbers):
        line = Line().ready()
        line.must(line.ball(**numbers))
        with self.subTest(numbers=numbers):
            self.assertEqual(line.over_text(0, 0), text)

    def test_fair(self):
        self.check(".")
        for runs in range(1, 10):
            self.check(str(runs), runs=runs)
        self.check("4", runs=4, line=1)
        self.check("6", runs=6, line=1)

    def test_byes_and_leg_byes(self):
        for runs in range(1, 10):
            self.check(f"{runs}b", off=BYES, runs=runs)
            self.check(f"{runs}lb", off=LEG_BYES, runs=runs)
        self.check("4b", off=BYES, runs=4, line=1)
        self.check("4lb", off=LEG_BYES, runs=4, line=1)

    def test_wide(self):
        for runs in range(10):
            self.check(f"{runs + 1}wd", kind=WIDE, runs=runs)
        self.check("5wd", kind=WIDE, runs=4, line=1)

    def test_no_ball(self):
        self.check("nb", kind=NO_BALL)
        for runs in range(1, 10):
            self.check(f"nb+{runs}", kind=NO_BALL, runs=runs)
            self.check(f"nb+{runs}b", kind=NO_BALL, off=BYES, runs=runs)
            self.check(f"nb+{runs}lb", kind=NO_BALL, off=LEG_BYES, runs=runs)
        self.check("nb+6", kind=NO_BALL, runs=6, line=1)

    def test_wicket_without_a_run(self):
        for how, fielder in ((1, 11), (2, 3), (3, 11), (4, 3), (5, 11), (6, 3), (7, 11), (8, 11)):
            self.check("W", how=how, fielder=fielder)

    def test_wicket_behind_runs(self):
        for how in (6, 7):
            for out, end in ((0, 0), (0, 1), (1, 0), (1, 1)):
                self.check("1W", how=how, runs=1, out=out, end=end)
            self.check("9W", how=how, runs=9)
            self.check("2bW", how=how, off=BYES, runs=2)
            self.check("1lbW", how=how, off=LEG_BYES, runs=1)

    def test_wicket_behind_a_wide(self):
        self.check("1wdW", kind=WIDE, how=4, fielder=3)
        self.check("1wdW", kind=WIDE, how=5)
        self.check("1wdW", kind=WIDE, how=6)
        self.check("3wdW", kind=WIDE, how=7, runs=2)
        self.check("10wdW", kind=WIDE, how=6, runs=9)

    def test_wicket_behind_a_no_ball(self):
        self.check("nbW", kind=NO_BALL, how=8)
        self.check("nbW", kind=NO_BALL, how=6)
        self.check("nb+1W", kind=NO_BALL, how=6, runs=1)
        self.check("nb+2bW", kind=NO_BALL, how=7, off=BYES, runs=2)
        self.check("nb+3lbW", kind=NO_BALL, how=6, off=LEG_BYES, runs=3)


class Overs(unittest.TestCase):
    def test_one_blank_between_two(self):
        line = Line(balls=4).ready()
        line.must(line.ball(), line.ball(runs=1), line.ball(kind=WIDE), line.ball(kind=NO_BALL, runs=4, line=1))
        self.assertEqual(line.over_text(0, 0), ". 1 1wd nb+4")
        line.must(line.ball(how=1), line.come_in(2), line.ball(off=LEG_BYES, runs=2))
        self.assertEqual(line.over_text(0, 0), ". 1 1wd nb+4 W 2lb")

    def test_what_is_no_ball_is_not_written(self):
        line = Line().ready()
        line.must(line.ball(runs=1), line.retire(0, 0), line.come_in(2), line.penalty(0), line.retire(1, 1),
                  line.come_in(3), line.ball(runs=2))
        self.assertEqual(line.over_text(0, 0), "1 2")

    def test_refused_balls_are_not_written(self):
        line = Line().ready()
        line.must(line.ball(runs=1))
        self.assertEqual(line.ball(kind=3), -1)
        line.must(line.retire(0, 0))
        self.assertEqual(line.ball(), -2)
        self.assertEqual(line.over_text(0, 0), "1")

    def test_no_ball_yet(self):
        line = Line(balls=4).ready()
        for most in (0, 1, TOP):
            self.assertEqual(line.over_bytes(0, 0, most), [0])
        line.over(4)
        self.assertEqual(line.over_bytes(0, 1), [-1])
        line.must(line.bowler(9))
        self.assertEqual(line.over_bytes(0, 1), [0])

    def test_each_over(self):
        line = Line(balls=4).ready()
        for runs in (1, 2, 3):
            for _ in range(4):
                line.must(line.ball(runs=runs))
            line.must(line.bowler(runs))
        line.must(line.ball(kind=WIDE))
        self.assertEqual([line.over_text(0, i) for i in range(4)], ["1 1 1 1", "2 2 2 2", "3 3 3 3", "1wd"])
        self.assertEqual(line.over_bytes(0, 4), [-1])

    def test_each_innings(self):
        line = Line().ready()
        line.must(line.ball(runs=1), line.ball(), line.declare())
        line.ready()
        line.must(line.ball(kind=NO_BALL))
        self.assertEqual(line.over_text(0, 0), "1 .")
        self.assertEqual(line.over_text(1, 0), "nb")

    def test_the_last_over_of_an_innings(self):
        line = Line(overs=1, balls=4).ready()
        line.over(3)
        line.must(line.ball(how=1))
        self.assertEqual(line.over_text(0, 0), ". . . W")


class Most(unittest.TestCase):
    def test_fits_or_not(self):
        line = Line().ready()
        line.must(line.ball(), line.ball(runs=4, line=1))
        for most in (3, 4, 256, TOP):
            self.assertEqual(line.over_bytes(0, 0, most), [3, 46, 32, 52])
        for most in (2, 1, 0):
            self.assertEqual(line.over_bytes(0, 0, most), [3])

    def test_of_a_long_over(self):
        line = Line().ready()
        line.singles(100)
        self.assertEqual(line.over_bytes(0, 0, 298), [299])
        self.assertEqual(line.over_bytes(0, 0, 299), [299] + (100 * [110, 98, 32])[:-1])

    def test_no_zero_among_the_bytes(self):
        line = Line().ready()
        line.must(line.ball(kind=WIDE, runs=9), line.ball(), line.ball(how=6))
        self.assertNotIn(0, line.over_bytes(0, 0)[1:])


class NoSuch(unittest.TestCase):
    def test_innings_and_overs(self):
        line = Line()
        self.assertEqual(line.over_bytes(0, 0), [-1])
        line.must(line.open())
        self.assertEqual(line.over_bytes(0, 0), [-1])
        line.must(line.bowler(3), line.ball())
        for k, i in ((0, 1), (1, 0), (1, 1), (0, 256), (256, 0), (0, TOP), (TOP, 0), (TOP, TOP)):
            for most in (0, 1, TOP):
                self.assertEqual(line.over_bytes(k, i, most), [-1])
        self.assertEqual(line.over_bytes(0, 0), [1, 46])
