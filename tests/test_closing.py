"""Promise 8."""

import unittest

from line import Line


class Declare(unittest.TestCase):
    def test_without_a_limit(self):
        line = Line()
        line.must(line.open())
        self.assertEqual(line.declare(), 0)
        self.assertFalse(line.goes_on())
        self.assertEqual(line.open(), 0)

    def test_in_the_middle_of_an_over(self):
        line = Line(innings=2).ready()
        line.must(line.ball(runs=3))
        self.assertEqual(line.declare(), 0)
        self.assertEqual(line.ball(), -2)

    def test_no_innings(self):
        line = Line()
        self.assertEqual(line.declare(), -2)
        line.whole_innings()
        self.assertEqual(line.declare(), -2)
        line.must(line.open(), line.draw())
        self.assertEqual(line.declare(), -2)

    def test_twice(self):
        line = Line()
        line.must(line.open(), line.declare())
        self.assertEqual(line.declare(), -2)

    def test_with_a_limit(self):
        line = Line(overs=5).ready()
        self.assertEqual(line.declare(), -2)
        self.assertEqual(line.ball(), 0)

    def test_with_a_limit_and_somebody_still_to_come(self):
        line = Line(overs=5).ready()
        line.must(line.retire(0, 1))
        self.assertEqual(line.declare(), -2)

    def only_hurt_left(self, overs):
        """Player 0 went hurt, eight wickets are down, and the last end is emptied."""
        line = Line(overs=overs)
        line.must(line.open(0, 1), line.retire(0, 1), line.come_in(2))
        line.lose_wickets(8, 3)
        line.must(line.retire(0, 0))
        return line

    def test_only_who_went_hurt_may_come_in(self):
        for overs in (0, 5):
            line = self.only_hurt_left(overs)
            self.assertTrue(line.goes_on())
            self.assertEqual(line.copy().come_in(0), 0)
            self.assertEqual(line.declare(), 0)
            self.assertFalse(line.goes_on())
            self.assertEqual(line.open(), 0)

    def test_only_who_went_hurt_is_left_but_no_end_is_empty(self):
        line = Line(overs=5)
        line.must(line.open(0, 1), line.retire(0, 1), line.come_in(2))
        line.lose_wickets(8, 3)
        self.assertEqual(line.declare(), -2)

    def test_the_last_pair_and_one_goes_hurt(self):
        line = Line(overs=5)
        line.must(line.open())
        line.lose_wickets(9, 2)
        self.assertEqual(line.declare(), -2)
        line.must(line.retire(0, 1))
        self.assertEqual(line.declare(), 0)
        self.assertFalse(line.goes_on())

    def test_the_last_innings(self):
        line = Line()
        line.whole_innings(3)
        line.must(line.open())
        self.assertEqual(line.declare(), 0)
        self.assertTrue(line.is_over())


class Follow(unittest.TestCase):
    def two_innings(self, first, second, follow, innings=2):
        line = Line(innings=innings, follow=follow)
        line.whole_innings(first)
        line.whole_innings(second)
        return line

    def test_by_the_lead(self):
        self.assertEqual(self.two_innings(9, 4, 5).follow(), 0)
        self.assertEqual(self.two_innings(9, 4, 4).follow(), 0)
        self.assertEqual(self.two_innings(9, 4, 6).follow(), -2)
        self.assertEqual(self.two_innings(4, 9, 5).follow(), -2)
        self.assertEqual(self.two_innings(4, 4, 1).follow(), -2)
        self.assertEqual(self.two_innings(5, 4, 1).follow(), 0)

    def test_without_a_lead_asked_for(self):
        self.assertEqual(self.two_innings(9, 4, 0).follow(), -2)
        self.assertEqual(self.two_innings(4, 4, 0).follow(), -2)

    def test_penalties_count(self):
        line = self.two_innings(9, 4, 10)
        line.must(line.penalty(0))
        self.assertEqual(line.follow(), 0)
        line = self.two_innings(9, 4, 5)
        line.must(line.penalty(1))
        self.assertEqual(line.follow(), -2)

    def test_match_of_one_innings(self):
        self.assertEqual(self.two_innings(9, 4, 1, innings=1).follow(), -2)

    def test_with_a_limit_of_overs(self):
        line = Line(innings=2, overs=20, follow=2)
        line.whole_innings(3)
        line.whole_innings(0)
        self.assertEqual(line.follow(), 0)

    def test_only_after_two_innings(self):
        line = Line(innings=2, follow=1)
        self.assertEqual(line.follow(), -2)
        line.ready()
        line.singles(5)
        self.assertEqual(line.follow(), -2)
        line.all_out()
        self.assertEqual(line.follow(), -2)
        line.must(line.open())
        self.assertEqual(line.follow(), -2)
        line.all_out()
        self.assertEqual(line.copy().follow(), 0)
        line.must(line.open())
        self.assertEqual(line.follow(), -2)
        line.all_out()
        self.assertEqual(line.follow(), -2)

    def test_once(self):
        line = self.two_innings(9, 4, 5)
        line.must(line.follow())
        self.assertEqual(line.follow(), -2)
        line.must(line.open())
        self.assertEqual(line.follow(), -2)

    def test_when_time_was_up(self):
        line = self.two_innings(9, 4, 5)
        line.must(line.draw())
        self.assertEqual(line.follow(), -2)

    def test_no_innings_is_opened_by_it(self):
        line = self.two_innings(9, 4, 5)
        line.must(line.follow())
        self.assertFalse(line.goes_on())
        self.assertEqual(line.open(), 0)

    def test_the_second_side_bats_again(self):
        # A penalty goes to the innings that is going on, so side 1 is the one that catches up.
        line = self.two_innings(9, 4, 5)
        line.must(line.follow())
        line.whole_innings(4)
        self.assertTrue(line.is_over())
        line = self.two_innings(9, 4, 5)
        line.must(line.follow())
        line.whole_innings(5)
        self.assertFalse(line.is_over())
        self.assertEqual(line.lead(), 0)


class Draw(unittest.TestCase):
    def test_before_the_first_innings(self):
        line = Line()
        self.assertEqual(line.draw(), -2)
        line.must(line.penalty(0))
        self.assertEqual(line.draw(), -2)
        self.assertEqual(line.open(), 0)

    def test_while_an_innings_goes_on(self):
        line = Line().ready()
        self.assertEqual(line.draw(), 0)
        self.assertTrue(line.is_over())
        self.assertEqual(line.open(), -2)

    def test_while_an_end_is_empty(self):
        line = Line().ready()
        line.must(line.retire(0, 0))
        self.assertEqual(line.draw(), 0)
        self.assertEqual(line.come_in(2), -2)

    def test_between_two_innings(self):
        for innings in (1, 2):
            line = Line(innings=innings)
            line.whole_innings()
            self.assertEqual(line.draw(), 0)
            self.assertTrue(line.is_over())
            self.assertEqual(line.open(), -2)

    def test_with_a_limit(self):
        line = Line(overs=1).ready()
        self.assertEqual(line.draw(), -2)
        self.assertEqual(line.ball(), 0)

    def test_when_the_match_is_over(self):
        line = Line().ready()
        line.must(line.draw())
        self.assertEqual(line.draw(), -2)
        line = Line()
        line.whole_innings(1)
        line.whole_innings()
        self.assertEqual(line.draw(), -2)
