"""Promise 14."""

import unittest

from line import BYES, Line, WIDE


class GoesOn(unittest.TestCase):
    def test_all_the_while(self):
        line = Line(innings=2, follow=1)
        self.assertEqual(line.result(), [0, 0, 0])
        for runs in (5, 2, 3):
            line.must(line.open())
            self.assertEqual(line.result(), [0, 0, 0])
            line.must(line.bowler(4))
            line.singles(runs)
            self.assertEqual(line.result(), [0, 0, 0])
            line.must(line.declare())
            self.assertEqual(line.result(), [0, 0, 0])
        line.must(line.open())
        self.assertEqual(line.result(), [0, 0, 0])

    def test_after_follow(self):
        line = Line(innings=2, follow=1)
        line.whole_innings(5)
        line.whole_innings(1)
        line.must(line.follow())
        self.assertEqual(line.result(), [0, 0, 0])

    def test_of_another_match(self):
        line = Line().ready()
        line.must(line.draw(), line.begin(1, 0, 6, 0, 0))
        self.assertEqual(line.result(), [0, 0, 0])


class OneInnings(unittest.TestCase):
    def chase(self, first, wickets=0):
        """Side 1 bats last, with so many wickets down."""
        line = Line()
        line.whole_innings(first)
        line.ready()
        line.lose_wickets(wickets, 2)
        return line

    def test_1_by_runs(self):
        for first, second in ((1, 0), (7, 3), (30, 0)):
            line = Line()
            line.whole_innings(first)
            line.whole_innings(second)
            self.assertEqual(line.result(), [0, 1, first - second])

    def test_1_with_a_last_innings_that_was_closed(self):
        line = self.chase(4)
        line.must(line.declare())
        self.assertEqual(line.result(), [0, 1, 4])

    def test_1_with_a_last_innings_whose_overs_are_bowled(self):
        line = Line(overs=1, balls=4).ready()
        line.must(line.ball(runs=9))
        line.over(3)
        line.ready()
        line.must(line.ball(runs=2))
        line.over(3)
        self.assertEqual(line.result(), [0, 1, 7])

    def test_4_by_wickets(self):
        for wickets in range(10):
            line = self.chase(2, wickets)
            line.must(line.ball(runs=2))
            self.assertEqual(line.result(), [0, 0, 0])
            line.must(line.ball(runs=6, line=1))
            self.assertEqual(line.result(), [0, 4, 10 - wickets])

    def test_4_who_went_hurt_is_no_wicket(self):
        line = self.chase(0, 1)
        line.must(line.retire(0, 1), line.come_in(9), line.ball(kind=WIDE))
        self.assertEqual(line.result(), [0, 4, 9])

    def test_4_with_the_tenth_wicket(self):
        line = self.chase(0, 9)
        line.must(line.ball(how=6, off=BYES, runs=1))
        self.assertEqual(line.result(), [0, 4, 0])

    def test_4_by_a_penalty(self):
        line = self.chase(4, 3)
        line.must(line.penalty(1))
        self.assertEqual(line.result(), [0, 4, 7])

    def test_4_at_the_opening(self):
        line = Line()
        line.must(line.penalty(1))
        line.whole_innings(4)
        line.must(line.open())
        self.assertEqual(line.result(), [0, 4, 10])

    def test_1_by_a_penalty_of_the_side_that_fields(self):
        line = self.chase(2)
        line.singles(2)
        line.must(line.penalty(0))
        line.all_out()
        self.assertEqual(line.result(), [0, 1, 5])

    def test_7_as_many(self):
        for runs in (0, 3):
            line = Line()
            line.whole_innings(runs)
            line.whole_innings(runs)
            self.assertEqual(line.result(), [0, 7, 0])

    def test_7_with_a_last_innings_that_was_closed(self):
        line = self.chase(0)
        line.must(line.declare())
        self.assertEqual(line.result(), [0, 7, 0])


class TwoInnings(unittest.TestCase):
    def match(self, *runs, follow=False):
        line = Line(innings=2, follow=1)
        for k, one in enumerate(runs):
            if k == 2 and follow:
                line.must(line.follow())
            line.whole_innings(one)
        return line

    def test_1_by_runs_in_all(self):
        self.assertEqual(self.match(5, 7, 6, 2).result(), [0, 1, 2])
        self.assertEqual(self.match(0, 0, 1, 0).result(), [0, 1, 1])

    def test_2_by_runs_after_a_follow_on(self):
        self.assertEqual(self.match(9, 4, 8, 1, follow=True).result(), [0, 2, 2])

    def test_4_by_wickets(self):
        line = self.match(5, 7, 6)
        line.ready()
        line.lose_wickets(4, 2)
        line.must(line.ball(runs=4))
        self.assertEqual(line.result(), [0, 0, 0])
        line.must(line.ball(runs=1))
        self.assertEqual(line.result(), [0, 4, 6])

    def test_3_by_wickets_after_a_follow_on(self):
        line = self.match(9, 4, 6, follow=True)
        line.ready()
        line.lose_wickets(2, 2)
        line.must(line.ball(runs=1))
        self.assertEqual(line.result(), [0, 0, 0])
        line.must(line.ball(runs=1))
        self.assertEqual(line.result(), [0, 3, 8])

    def test_3_wickets_of_earlier_innings_do_not_count(self):
        line = self.match(9, 4, 6, follow=True)
        line.ready()
        line.must(line.ball(runs=9))
        self.assertEqual(line.result(), [0, 3, 10])

    def test_6_by_an_innings(self):
        for third in (0, 3):
            self.assertEqual(self.match(2, 6, third).result(), [0, 6, 4 - third])

    def test_5_by_an_innings_after_a_follow_on(self):
        for third in (0, 4):
            self.assertEqual(self.match(9, 4, third, follow=True).result(), [0, 5, 5 - third])

    def test_not_by_an_innings_with_as_many(self):
        self.assertEqual(self.match(2, 6, 4).result(), [0, 0, 0])
        self.assertEqual(self.match(9, 4, 5, follow=True).result(), [0, 0, 0])

    def test_6_with_a_third_innings_that_was_closed(self):
        line = self.match(2, 6)
        line.must(line.open(), line.declare())
        self.assertEqual(line.result(), [0, 6, 4])

    def test_6_and_5_with_overs_bowled(self):
        for runs, follow, expected in (((0, 9), False, [0, 6, 9]), ((9, 0), True, [0, 5, 9])):
            line = Line(innings=2, overs=1, balls=4, follow=2)
            for one in runs:
                line.ready()
                line.must(line.ball(runs=one))
                line.over(3)
            line.must(*([line.follow()] if follow else []))
            line.ready()
            line.over(4)
            self.assertEqual(line.result(), expected)

    def test_6_and_5_by_a_penalty_after_three_innings(self):
        line = self.match(2, 6, 5)
        line.must(line.penalty(1))
        self.assertEqual(line.result(), [0, 6, 4])
        line = self.match(9, 4, 7, follow=True)
        line.must(line.penalty(0))
        self.assertEqual(line.result(), [0, 5, 3])

    def test_7_as_many(self):
        self.assertEqual(self.match(3, 2, 1, 2).result(), [0, 7, 0])
        self.assertEqual(self.match(9, 4, 6, 1, follow=True).result(), [0, 7, 0])
        self.assertEqual(self.match(0, 0, 0, 0).result(), [0, 7, 0])

    def test_penalties_count(self):
        line = self.match(3, 2, 1)
        line.must(line.penalty(0))
        line.whole_innings(1)
        self.assertEqual(line.result(), [0, 1, 6])


class TimeIsUp(unittest.TestCase):
    def test_8_within_an_innings(self):
        for played in range(4):
            line = Line(innings=2)
            for _ in range(played):
                line.whole_innings(3)
            line.must(line.open(), line.draw())
            self.assertEqual(line.result(), [0, 8, 0])

    def test_8_between_two_innings(self):
        for played in range(1, 4):
            line = Line(innings=2)
            for _ in range(played):
                line.whole_innings(3)
            line.must(line.draw())
            self.assertEqual(line.result(), [0, 8, 0])

    def test_8_whoever_is_ahead(self):
        for first, second in ((9, 2), (9, 9)):
            line = Line()
            line.whole_innings(first)
            line.ready()
            line.singles(second)
            line.must(line.draw())
            self.assertEqual(line.result(), [0, 8, 0])

    def test_8_in_a_third_innings_that_is_behind(self):
        line = Line(innings=2)
        line.whole_innings(0)
        line.whole_innings(9)
        line.must(line.open(), line.draw())
        self.assertEqual(line.result(), [0, 8, 0])
