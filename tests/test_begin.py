"""Promise 1."""

import unittest

from line import Line, TOP


class Bounds(unittest.TestCase):
    def check(self, position, answer, *numbers):
        for number in numbers:
            row = [1, 20, 6, 4, 100]
            row[position] = number
            with self.subTest(position=position, number=number):
                self.assertEqual(Line().begin(*row), answer)

    def test_innings(self):
        self.check(0, 0, 1, 2)
        self.check(0, -1, 0, 3, 256, TOP)

    def test_overs(self):
        self.check(1, 0, 0, 1, 199, 200)
        self.check(1, -1, 201, 255, 256, TOP)

    def test_balls(self):
        self.check(2, 0, 4, 5, 6, 7, 8)
        self.check(2, -1, 0, 3, 9, 260, TOP)

    def test_most(self):
        self.check(3, 0, 0, 1, 199, 200)
        self.check(3, -1, 201, 256, TOP)

    def test_follow(self):
        self.check(4, 0, 0, 1, 999, 1000)
        self.check(4, -1, 1001, TOP)


class Again(unittest.TestCase):
    def test_refused_in_the_middle_changes_nothing(self):
        line = Line(balls=4).ready(3, 4, 9)
        line.must(line.ball(runs=1), line.ball())
        self.assertEqual(line.begin(3, 0, 6, 0, 0), -1)
        self.assertEqual(line.open(0, 1), -2)
        self.assertEqual(line.striker(3, 4), 4)
        self.assertEqual(line.ball(), 0)
        self.assertEqual(line.ball(), 0)
        self.assertEqual(line.ball(), -2)
        self.assertEqual(line.bowler(9), -2)

    def test_allowed_in_the_middle_begins_anew(self):
        line = Line(balls=4).ready(3, 4, 9)
        line.over(4)
        line.must(line.penalty(1))
        self.assertEqual(line.begin(1, 1, 5, 0, 0), 0)
        self.assertEqual(line.bowler(9), -2)
        self.assertEqual(line.open(5, 6), 0)
        self.assertEqual(line.bowler(9), 0)
        line.over(5)
        self.assertFalse(line.goes_on())
        # The penalty of the match before is forgotten: a run is needed.
        self.assertEqual(line.open(0, 1), 0)
        self.assertTrue(line.goes_on())

    def test_allowed_after_the_end(self):
        line = Line().ready()
        line.must(line.draw())
        self.assertEqual(line.open(), -2)
        self.assertEqual(line.begin(2, 0, 6, 0, 0), 0)
        self.assertEqual(line.open(), 0)
        self.assertEqual(line.bowler(10), 0)
