"""Promise 3."""

import unittest

from line import Line, TOP


class Bowler(unittest.TestCase):
    def test_players(self):
        for player, answer in ((0, 0), (10, 0), (11, -1), (256, -1), (TOP, -1)):
            with self.subTest(player=player):
                line = Line()
                line.must(line.open())
                self.assertEqual(line.bowler(player), answer)

    def test_wrong_comes_before_refused(self):
        line = Line()
        self.assertEqual(line.bowler(11), -1)
        line.ready()
        self.assertEqual(line.bowler(11), -1)

    def test_before_the_first_innings(self):
        self.assertEqual(Line().bowler(3), -2)

    def test_between_two_innings(self):
        line = Line()
        line.whole_innings()
        self.assertEqual(line.bowler(3), -2)

    def test_after_the_match(self):
        line = Line()
        line.must(line.open(), line.draw())
        self.assertEqual(line.bowler(3), -2)

    def test_while_an_over_goes_on(self):
        line = Line(balls=4).ready(bowler=10)
        for _ in range(4):
            self.assertEqual(line.bowler(9), -2)
            self.assertEqual(line.bowler(10), -2)
            line.must(line.ball())
        self.assertEqual(line.bowler(9), 0)

    def test_wides_and_no_balls_do_not_end_an_over(self):
        line = Line(balls=4).ready()
        line.over(3)
        for kind in (1, 2, 1, 2):
            line.must(line.ball(kind=kind))
            self.assertEqual(line.bowler(9), -2)
        line.must(line.ball())
        self.assertEqual(line.bowler(9), 0)

    def test_each_length_of_an_over(self):
        for balls in (4, 5, 6, 7, 8):
            with self.subTest(balls=balls):
                line = Line(balls=balls).ready()
                line.over(balls - 1)
                self.assertEqual(line.copy().bowler(9), -2)
                line.over(1)
                self.assertEqual(line.ball(), -2)
                self.assertEqual(line.bowler(9), 0)

    def test_not_who_bowled_the_last_over(self):
        line = Line(balls=4).ready(bowler=10)
        line.over(4)
        self.assertEqual(line.bowler(10), -2)
        self.assertEqual(line.bowler(9), 0)
        line.over(4)
        self.assertEqual(line.bowler(9), -2)
        self.assertEqual(line.bowler(10), 0)

    def test_last_over_of_another_innings_does_not_count(self):
        line = Line(innings=2, balls=4).ready(bowler=10)
        line.over(4)
        line.must(line.declare(), line.open())
        self.assertEqual(line.bowler(10), 0)

    def test_may_be_told_while_an_end_is_empty(self):
        line = Line()
        line.must(line.open(), line.retire(0, 1))
        self.assertEqual(line.bowler(4), 0)
        self.assertEqual(line.ball(), -2)


class Most(unittest.TestCase):
    def bowl_overs(self, line, count):
        for i in range(count):
            line.must(line.bowler(i % 2))
            line.over(4)

    def test_as_many_as_allowed(self):
        line = Line(balls=4, most=2)
        line.must(line.open())
        self.bowl_overs(line, 4)
        self.assertEqual(line.bowler(0), -2)
        self.assertEqual(line.bowler(1), -2)
        self.assertEqual(line.bowler(2), 0)

    def test_one_less_than_allowed(self):
        line = Line(balls=4, most=3)
        line.must(line.open())
        self.bowl_overs(line, 4)
        self.assertEqual(line.bowler(0), 0)

    def test_zero_allows_any(self):
        line = Line(balls=4, most=0)
        line.must(line.open())
        self.bowl_overs(line, 30)
        self.assertEqual(line.bowler(0), 0)

    def test_counted_anew_in_each_innings(self):
        line = Line(innings=2, balls=4, most=1)
        for _ in range(2):
            line.must(line.open())
            self.bowl_overs(line, 2)
            self.assertEqual(line.bowler(0), -2)
            line.must(line.declare())
