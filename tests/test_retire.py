"""Promise 6."""

import unittest

from line import Line, TOP


class Retire(unittest.TestCase):
    def test_numbers(self):
        for numbers in ((0, 0), (0, 1), (1, 0), (1, 1)):
            self.assertEqual(Line().ready().retire(*numbers), 0)
        for numbers in ((2, 0), (0, 2), (2, 2), (TOP, 0), (1, TOP), (256, 1), (1, 256)):
            with self.subTest(numbers=numbers):
                self.assertEqual(Line().ready().retire(*numbers), -1)

    def test_wrong_comes_before_refused(self):
        line = Line()
        self.assertEqual(line.retire(2, 0), -1)
        self.assertEqual(line.retire(0, 2), -1)

    def test_no_innings(self):
        line = Line()
        self.assertEqual(line.retire(0, 0), -2)
        line.whole_innings()
        self.assertEqual(line.retire(0, 1), -2)

    def test_after_the_match(self):
        line = Line().ready()
        line.must(line.draw())
        self.assertEqual(line.retire(0, 1), -2)

    def test_an_end_is_empty(self):
        line = Line().ready()
        line.must(line.retire(0, 1))
        for end in (0, 1):
            for hurt in (0, 1):
                self.assertEqual(line.retire(end, hurt), -2)

    def test_at_either_end(self):
        for end in (0, 1):
            line = Line().ready(0, 1)
            line.must(line.retire(end, 0), line.come_in(2))
            self.assertEqual(line.at_end(end, 2, 1 - end), 2)

    def test_before_a_bowler_is_told(self):
        line = Line()
        line.must(line.open())
        self.assertEqual(line.retire(1, 1), 0)

    def test_out_may_not_come_in_again(self):
        for end in (0, 1):
            line = Line().ready(0, 1)
            line.must(line.retire(end, 0))
            self.assertEqual(line.come_in(end), -2)

    def test_hurt_may_come_in_again(self):
        for end in (0, 1):
            line = Line().ready(0, 1)
            line.must(line.retire(end, 1))
            self.assertEqual(line.come_in(end), 0)

    def test_out_is_a_wicket(self):
        line = Line()
        line.must(line.open())
        line.lose_wickets(9, 2)
        self.assertTrue(line.goes_on())
        line.must(line.retire(1, 0))
        self.assertFalse(line.goes_on())

    def test_hurt_is_no_wicket(self):
        line = Line()
        line.must(line.open())
        for player in range(2, 11):
            line.must(line.retire(0, 1), line.come_in(player))
        for _ in range(20):
            line.must(line.retire(0, 1))
            self.assertTrue(line.goes_on())
            line.must(line.come_in(10))
        # Nine who went hurt are there to come in, one after another.
        for player in (0, 2, 3, 4, 5, 6, 7, 8, 9):
            line.must(line.retire(0, 0), line.come_in(player))
        line.must(line.retire(0, 0))
        self.assertFalse(line.goes_on())

    def test_hurt_last_one_may_come_back(self):
        line = Line()
        line.must(line.open())
        line.lose_wickets(9, 2)
        line.must(line.retire(0, 1))
        self.assertTrue(line.goes_on())
        self.assertEqual(line.come_in(10), 0)

    def test_refused_leaves_both_in(self):
        line = Line().ready(0, 1)
        self.assertEqual(line.retire(0, 2), -1)
        self.assertEqual(line.come_in(2), -2)
        self.assertEqual(line.ball(), 0)
