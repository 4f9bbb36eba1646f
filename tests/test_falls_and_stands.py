"""Promise 12: fall and stand."""

import unittest

from line import BYES, Line, NO_BALL, TOP, WIDE


def falls(line, k=0):
    found = []
    while line.fall(k, len(found)) != [-1]:
        found.append(line.fall(k, len(found)))
    return found


def stands(line, k=0):
    found = []
    while line.stand(k, len(found)) != [-1]:
        found.append(line.stand(k, len(found)))
    return found


class Falls(unittest.TestCase):
    def test_none_yet(self):
        line = Line().ready()
        line.must(line.ball(runs=4))
        self.assertEqual(falls(line), [])

    def test_runs_and_balls_with_those_of_the_ball_itself(self):
        line = Line().ready(5, 6, 9)
        line.must(line.ball(runs=2), line.ball(how=6, runs=1), line.come_in(0), line.ball(kind=WIDE, how=5),
                  line.come_in(1), line.ball(kind=NO_BALL, how=7, runs=2, out=1), line.come_in(2), line.ball(how=1))
        self.assertEqual(falls(line), [[0, 3, 5, 2], [0, 4, 0, 2], [0, 7, 6, 2], [0, 7, 2, 3]])

    def test_penalties_are_among_the_runs(self):
        line = Line()
        line.must(line.penalty(0), line.open(), line.penalty(0), line.retire(0, 0), line.penalty(0))
        self.assertEqual(falls(line), [[0, 10, 0, 0]])

    def test_who_goes(self):
        line = Line().ready(5, 6, 9)
        line.must(line.ball(), line.retire(0, 1), line.come_in(0), line.ball(), line.retire(1, 0))
        self.assertEqual(falls(line), [[0, 0, 6, 2]])
        line.must(line.come_in(5), line.ball(how=1))
        self.assertEqual(falls(line), [[0, 0, 6, 2], [0, 0, 0, 3]])

    def test_of_who_came_in_again(self):
        line = Line().ready(5, 6, 9)
        line.must(line.retire(0, 1), line.come_in(5), line.ball(runs=2), line.ball(how=3))
        self.assertEqual(falls(line), [[0, 2, 5, 2]])

    def test_all_ten(self):
        line = Line().ready(0, 1, 9)
        line.must(line.ball(runs=2))
        line.all_out()
        self.assertEqual(falls(line), [[0, 2, player, 1] for player in (0, 2, 3, 4, 5, 6, 7, 8, 9, 10)])
        self.assertEqual(line.fall(0, 10), [-1])

    def test_each_innings(self):
        line = Line()
        line.must(line.open(), line.retire(0, 0), line.declare(), line.open(), line.bowler(4), line.ball(how=1))
        line.must(line.come_in(7), line.ball(how=1))
        self.assertEqual(falls(line, 0), [[0, 0, 0, 0]])
        self.assertEqual(falls(line, 1), [[0, 0, 0, 1], [0, 0, 7, 2]])

    def test_no_such(self):
        line = Line()
        self.assertEqual(line.fall(0, 0), [-1])
        line.must(line.open(), line.retire(0, 0))
        self.assertEqual(line.fall(0, 0)[0], 0)
        for k, i in ((0, 1), (1, 0), (0, 10), (0, 256), (256, 0), (0, TOP), (TOP, 0), (TOP, TOP)):
            self.assertEqual(line.fall(k, i), [-1])


class Stands(unittest.TestCase):
    def test_the_openers(self):
        line = Line()
        line.must(line.open(7, 3))
        self.assertEqual(stands(line), [[0, 7, 3, 0, 0]])

    def test_all_runs_of_a_ball_but_only_fair_balls(self):
        for numbers, runs, balls in (({"runs": 3}, 3, 1), ({"off": BYES, "runs": 4, "line": 1}, 4, 1),
                                     ({"kind": WIDE, "runs": 2}, 3, 0), ({"kind": NO_BALL, "runs": 6}, 7, 0),
                                     ({"kind": NO_BALL, "off": BYES, "runs": 1}, 2, 0), ({"how": 6, "runs": 1}, 1, 1),
                                     ({"kind": WIDE, "how": 5}, 1, 0), ({"how": 1}, 0, 1)):
            line = Line().ready(7, 3)
            line.must(line.ball(**numbers))
            self.assertEqual(stands(line), [[0, 7, 3, runs, balls]], numbers)

    def test_penalties_do_not_count(self):
        line = Line()
        line.must(line.penalty(0))
        line.ready(7, 3)
        line.must(line.ball(runs=2), line.penalty(0), line.penalty(1))
        self.assertEqual(stands(line), [[0, 7, 3, 2, 1]])

    def test_a_new_one_with_each_who_comes_in(self):
        line = Line().ready(5, 6, 9)
        line.must(line.ball(runs=1), line.ball(kind=WIDE, runs=1), line.penalty(0), line.ball(how=1))
        self.assertEqual(stands(line), [[0, 5, 6, 3, 2]])
        line.must(line.come_in(2))
        self.assertEqual(stands(line), [[0, 5, 6, 3, 2], [0, 6, 2, 0, 0]])
        line.must(line.ball(off=BYES, runs=2), line.retire(1, 1), line.come_in(3))
        self.assertEqual(stands(line), [[0, 5, 6, 3, 2], [0, 6, 2, 2, 1], [0, 2, 3, 0, 0]])

    def test_who_is_left_stayed(self):
        for out in (0, 1):
            for end in (0, 1):
                line = Line().ready(5, 6, 9)
                line.must(line.ball(how=6, out=out, end=end), line.come_in(2))
                self.assertEqual(line.stand(0, 1), [0, (6, 5)[out], 2, 0, 0])

    def test_who_comes_in_again(self):
        line = Line().ready(5, 6, 9)
        line.must(line.ball(runs=2), line.retire(0, 1), line.come_in(5), line.ball(runs=4))
        self.assertEqual(stands(line), [[0, 5, 6, 2, 1], [0, 6, 5, 4, 1]])
        line.must(line.retire(0, 1), line.come_in(0), line.retire(1, 0), line.come_in(5))
        self.assertEqual(stands(line)[2:], [[0, 6, 0, 0, 0], [0, 0, 5, 0, 0]])

    def test_each_innings(self):
        line = Line()
        line.must(line.open(7, 3), line.declare(), line.open(2, 8), line.retire(0, 0), line.come_in(7))
        self.assertEqual(stands(line, 0), [[0, 7, 3, 0, 0]])
        self.assertEqual(stands(line, 1), [[0, 2, 8, 0, 0], [0, 8, 7, 0, 0]])

    def test_all_ten(self):
        line = Line()
        line.whole_innings()
        self.assertEqual(len(stands(line)), 10)

    def test_no_such(self):
        line = Line()
        self.assertEqual(line.stand(0, 0), [-1])
        line.must(line.open())
        for k, i in ((0, 1), (1, 0), (0, 10), (0, 256), (256, 0), (0, TOP), (TOP, 0), (TOP, TOP)):
            self.assertEqual(line.stand(k, i), [-1])
        # Who has gone but is not followed yet has begun no new one.
        line.must(line.retire(0, 0))
        self.assertEqual(line.stand(0, 1), [-1])
