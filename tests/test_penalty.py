"""Promise 7."""

import unittest

from line import Line, TOP


class Penalty(unittest.TestCase):
    def test_sides(self):
        for side, answer in ((0, 0), (1, 0), (2, -1), (256, -1), (TOP, -1)):
            with self.subTest(side=side):
                self.assertEqual(Line().penalty(side), answer)
                self.assertEqual(Line().ready().penalty(side), answer)

    def test_wrong_comes_before_refused(self):
        line = Line().ready()
        line.must(line.draw())
        self.assertEqual(line.penalty(2), -1)
        self.assertEqual(line.penalty(1), -2)

    def test_to_the_side_that_bats(self):
        line = Line().ready()
        line.singles(2)
        line.must(line.penalty(0))
        line.all_out()
        self.assertEqual(line.lead(), 7)

    def test_to_the_side_that_has_batted(self):
        line = Line()
        line.whole_innings(2)
        line.ready()
        self.assertEqual(line.runs_needed(), 3)
        line.must(line.penalty(0))
        self.assertEqual(line.runs_needed(), 8)

    def test_to_the_side_that_has_batted_between_two_innings(self):
        line = Line()
        line.whole_innings(2)
        line.must(line.penalty(0))
        self.assertEqual(line.lead(), 7)

    def test_to_the_side_that_has_not_batted_yet(self):
        for when in ("before", "while", "between"):
            line = Line()
            line.must(line.penalty(0), line.penalty(0))
            if when == "before":
                line.must(line.penalty(1))
            line.must(line.open())
            if when == "while":
                line.must(line.penalty(1))
            line.all_out()
            if when == "between":
                line.must(line.penalty(1))
            with self.subTest(when=when):
                self.assertEqual(line.lead(), 5)

    def test_to_the_side_that_chases(self):
        line = Line()
        line.whole_innings(7)
        line.ready()
        line.must(line.penalty(1))
        self.assertEqual(line.runs_needed(), 3)

    def test_may_end_the_match(self):
        line = Line()
        line.whole_innings(4)
        line.ready()
        self.assertEqual(line.penalty(1), 0)
        self.assertTrue(line.is_over())
        self.assertEqual(line.penalty(0), -2)
        self.assertEqual(line.penalty(1), -2)

    def test_as_many_do_not_end_it(self):
        line = Line()
        line.whole_innings(5)
        line.ready()
        line.must(line.penalty(1))
        self.assertFalse(line.is_over())

    def test_while_an_end_is_empty(self):
        line = Line().ready()
        line.must(line.retire(0, 0))
        self.assertEqual(line.penalty(0), 0)
        self.assertEqual(line.come_in(2), 0)

    def test_changes_neither_the_ends_nor_the_over(self):
        line = Line(balls=4).ready(0, 1)
        line.over(3)
        line.must(line.penalty(0))
        self.assertEqual(line.striker(0, 1), 0)
        self.assertEqual(line.bowler(9), -2)
        line.over(1)
        self.assertEqual(line.bowler(9), 0)

    def test_refused_gives_no_runs(self):
        line = Line().ready()
        self.assertEqual(line.penalty(2), -1)
        line.all_out()
        self.assertEqual(line.lead(), 0)
