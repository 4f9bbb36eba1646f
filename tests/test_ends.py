"""How an innings ends, in which order the ends are looked at, and how a match ends."""

import unittest

from line import BYES, Line, NO_BALL, WIDE


def how_ended(line):
    """How each innings of a line ended."""
    opened = line.now()[1]
    return [line.total(k)[10] for k in range(opened)]


class InningsEnds(unittest.TestCase):
    def test_1_nobody_may_come_in(self):
        line = Line().ready()
        for player in range(2, 7):
            line.must(line.ball(how=1), line.come_in(player))
        line.must(line.ball(), line.bowler(9))
        for player in range(7, 11):
            line.must(line.ball(how=3), line.come_in(player))
        self.assertEqual(how_ended(line), [0])
        line.must(line.ball(how=8))
        self.assertEqual(how_ended(line), [1])
        self.assertEqual(line.open(), 0)

    def test_1_not_while_one_went_hurt(self):
        line = Line()
        line.must(line.open(0, 1), line.retire(1, 1), line.come_in(2))
        line.lose_wickets(9, 3)
        self.assertEqual(how_ended(line), [0])
        self.assertEqual(line.come_in(1), 0)
        line.must(line.retire(1, 0))
        self.assertEqual(how_ended(line), [1])

    def test_2_closed(self):
        line = Line()
        line.must(line.open(), line.declare())
        self.assertEqual(how_ended(line), [2])

    def test_2_closed_while_somebody_may_come_in(self):
        line = Line()
        line.must(line.open(), line.retire(0, 0), line.declare())
        self.assertEqual(how_ended(line), [2])

    def test_closed_with_only_who_went_hurt_is_1(self):
        for overs in (0, 3):
            line = Line(overs=overs)
            line.must(line.open())
            line.lose_wickets(9, 2)
            line.must(line.retire(0, 1), line.declare())
            self.assertEqual(how_ended(line), [1])

    def test_3_overs(self):
        line = Line(overs=2, balls=4).ready()
        line.over(4)
        line.must(line.bowler(9))
        line.over(3)
        line.must(line.ball(kind=WIDE), line.ball(kind=NO_BALL))
        self.assertEqual(how_ended(line), [0])
        line.over(1)
        self.assertEqual(how_ended(line), [3])
        self.assertEqual(line.open(), 0)

    def test_3_most_overs_there_are(self):
        line = Line(overs=200, balls=4)
        line.must(line.open())
        calls = []
        for i in range(200):
            calls.extend([2, i % 2] + 4 * [3, 0, 0, 0, 0, 0, 0, 0, 11])
        line.calls.extend(calls[:-9])
        self.assertTrue(line.goes_on())
        line.must(line.ball())
        self.assertEqual(how_ended(line), [3])

    def test_no_limit_of_overs(self):
        line = Line(overs=0, balls=4)
        line.must(line.open())
        for i in range(25):
            line.must(line.bowler(i % 2))
            line.over(4)
        self.assertEqual(how_ended(line), [0])

    def chase(self, runs, **numbers):
        line = Line(**numbers)
        line.whole_innings(runs)
        return line.ready()

    def test_4_more_runs(self):
        line = self.chase(3)
        line.must(line.ball(runs=3))
        self.assertEqual(how_ended(line), [1, 0])
        line.must(line.ball(kind=WIDE))
        self.assertEqual(how_ended(line), [1, 4])
        self.assertTrue(line.is_over())

    def test_4_only_the_last_innings(self):
        line = Line(innings=2)
        line.whole_innings(1)
        line.ready()
        line.must(line.ball(runs=9), line.penalty(1))
        self.assertEqual(how_ended(line), [1, 0])
        line.all_out()
        line.ready()
        line.must(line.ball(runs=9), line.ball(runs=9))
        self.assertEqual(how_ended(line), [1, 1, 0])

    def test_4_by_byes_and_by_a_penalty(self):
        line = self.chase(3)
        line.must(line.ball(off=BYES, runs=4, line=1))
        self.assertEqual(how_ended(line), [1, 4])
        line = self.chase(4)
        line.must(line.penalty(1))
        self.assertEqual(how_ended(line), [1, 4])

    def test_4_at_the_opening(self):
        line = Line()
        line.must(line.penalty(1))
        line.whole_innings(4)
        line.must(line.open())
        self.assertEqual(how_ended(line), [1, 4])

    def test_4_by_runs_in_all(self):
        line = Line(innings=2)
        line.whole_innings(2)
        line.whole_innings(5)
        line.whole_innings(4)
        line.ready()
        line.must(line.ball(runs=1))
        self.assertEqual(how_ended(line), [1, 1, 1, 0])
        line.must(line.ball(runs=1))
        self.assertEqual(how_ended(line), [1, 1, 1, 4])

    def test_5_time_is_up(self):
        line = Line().ready()
        line.must(line.draw())
        self.assertEqual(how_ended(line), [5])
        line = Line()
        line.whole_innings()
        line.must(line.draw())
        self.assertEqual(how_ended(line), [1])


class Order(unittest.TestCase):
    def test_4_before_1(self):
        line = Line()
        line.whole_innings(0)
        line.ready()
        line.lose_wickets(9, 2)
        line.must(line.ball(how=6, runs=1))
        self.assertEqual(how_ended(line), [1, 4])

    def test_4_before_3(self):
        line = Line(overs=1, balls=4)
        line.whole_innings(0)
        line.ready()
        line.over(3)
        line.must(line.ball(runs=1))
        self.assertEqual(how_ended(line), [1, 4])

    def test_1_before_3(self):
        line = Line(overs=1, balls=4).ready()
        line.lose_wickets(9, 2)
        line.over(3)
        line.must(line.ball(how=1))
        self.assertEqual(how_ended(line), [1])

    def test_3_while_an_end_is_empty(self):
        line = Line(overs=1, balls=4).ready()
        line.over(3)
        line.must(line.ball(how=1))
        self.assertEqual(how_ended(line), [3])


class MatchEnds(unittest.TestCase):
    def test_of_one_innings(self):
        for first, second in ((3, 2), (3, 3), (0, 0)):
            line = Line()
            line.whole_innings(first)
            self.assertFalse(line.is_over())
            line.whole_innings(second)
            self.assertTrue(line.is_over())
            self.assertEqual(line.open(), -2)

    def test_of_one_innings_by_wickets(self):
        line = Line()
        line.whole_innings(3)
        line.ready()
        line.singles(3)
        self.assertFalse(line.is_over())
        line.singles(1)
        self.assertTrue(line.is_over())

    def test_of_one_innings_by_overs(self):
        line = Line(overs=1, balls=4)
        for _ in range(2):
            self.assertFalse(line.is_over())
            line.ready()
            line.over(4)
        self.assertTrue(line.is_over())

    def three(self, first, second, third):
        line = Line(innings=2, follow=1)
        for runs in (first, second, third):
            self.assertFalse(line.is_over())
            line.whole_innings(runs)
        return line

    def test_after_three_innings_with_fewer(self):
        line = self.three(2, 6, 3)
        self.assertTrue(line.is_over())
        self.assertEqual(line.open(), -2)

    def test_after_three_innings_with_as_many_or_more(self):
        for third in (4, 5):
            line = self.three(2, 6, third)
            self.assertFalse(line.is_over())
            self.assertEqual(line.open(), 0)

    def test_after_three_innings_followed_on(self):
        for third, over in ((2, True), (3, False), (4, False)):
            line = Line(innings=2, follow=3)
            line.whole_innings(6)
            line.whole_innings(3)
            line.must(line.follow())
            line.whole_innings(third)
            self.assertEqual(line.is_over(), over)

    def test_behind_while_the_third_goes_on(self):
        line = Line(innings=2)
        line.whole_innings(0)
        line.whole_innings(6)
        line.ready()
        self.assertFalse(line.is_over())
        line.must(line.ball(runs=1))
        self.assertFalse(line.is_over())

    def test_behind_by_a_penalty_after_three_innings(self):
        line = self.three(2, 6, 5)
        line.must(line.penalty(1))
        self.assertTrue(line.is_over())
        self.assertEqual(line.open(), -2)

    def test_not_after_two_innings(self):
        line = Line(innings=2)
        line.whole_innings(0)
        line.whole_innings(6)
        self.assertFalse(line.is_over())

    def test_after_four_innings(self):
        for fourth in (0, 1):
            line = self.three(2, 1, 0)
            line.whole_innings(fourth)
            self.assertTrue(line.is_over())
            self.assertEqual(line.open(), -2)

    def test_the_fourth_passes_the_other(self):
        line = self.three(2, 1, 3)
        line.ready()
        line.singles(4)
        self.assertFalse(line.is_over())
        line.singles(1)
        self.assertTrue(line.is_over())

    def test_closed_third(self):
        line = Line(innings=2)
        line.whole_innings(0)
        line.whole_innings(1)
        line.must(line.open(), line.declare())
        self.assertTrue(line.is_over())

    def test_time_is_up(self):
        for opened in (1, 2, 3, 4):
            line = Line(innings=2)
            for _ in range(opened - 1):
                line.whole_innings(0)
            line.must(line.open(), line.draw())
            self.assertTrue(line.is_over())
            self.assertEqual(line.open(), -2)
