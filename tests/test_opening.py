"""Promise 2."""

import unittest

from line import Line, NO_BALL, TOP


class Opening(unittest.TestCase):
    def test_players(self):
        for pair, answer in (((0, 1), 0), ((10, 0), 0), ((0, 10), 0), ((7, 3), 0),
                             ((11, 0), -1), ((0, 11), -1), ((5, 5), -1), ((11, 11), -1),
                             ((TOP, 1), -1), ((1, TOP), -1), ((256, 1), -1)):
            with self.subTest(pair=pair):
                self.assertEqual(Line().open(*pair), answer)

    def test_striker_faces(self):
        self.assertEqual(Line().ready(7, 3).striker(3, 7), 7)

    def test_other_is_at_the_other_end(self):
        self.assertEqual(Line().ready(7, 3).at_end(1, 3, 7), 3)

    def test_refused_while_one_goes_on(self):
        line = Line()
        line.must(line.open(0, 1))
        self.assertEqual(line.open(2, 3), -2)
        self.assertEqual(line.striker(0, 1), 0)

    def test_refused_when_the_match_is_over(self):
        line = Line()
        line.whole_innings(3)
        line.whole_innings(2)
        self.assertEqual(line.open(), -2)

    def test_wrong_comes_before_refused(self):
        line = Line()
        line.must(line.open(0, 1))
        self.assertEqual(line.open(4, 4), -1)
        self.assertEqual(line.open(11, 4), -1)
        line.must(line.draw())
        self.assertEqual(line.open(4, 11), -1)

    def test_refused_leaves_the_next_innings_to_be_opened(self):
        line = Line()
        self.assertEqual(line.open(4, 4), -1)
        self.assertEqual(line.open(4, 5), 0)

    def test_everybody_is_new_in_the_next_innings(self):
        line = Line()
        line.whole_innings()
        line.must(line.open(8, 9), line.retire(0, 0))
        self.assertEqual(line.come_in(8), -2)
        self.assertEqual(line.come_in(0), 0)


class Owed(unittest.TestCase):
    def test_owed_to_the_second_side(self):
        line = Line().ready()
        line.singles(8)
        line.must(line.penalty(1))
        line.all_out()
        self.assertEqual(line.lead(), 3)

    def test_owed_to_the_first_side(self):
        line = Line()
        line.must(line.penalty(0), line.penalty(0))
        line.whole_innings(1)
        self.assertEqual(line.lead(), 11)

    def test_owed_once(self):
        line = Line(innings=2)
        line.must(line.penalty(1))
        line.whole_innings(9)
        line.whole_innings(0)
        line.whole_innings(0)
        self.assertEqual(line.lead(), 4)

    def test_enough_to_win_at_the_opening(self):
        line = Line().ready()
        line.singles(4)
        line.must(line.penalty(1))
        line.all_out()
        self.assertFalse(line.is_over())
        self.assertEqual(line.open(0, 1), 0)
        self.assertTrue(line.is_over())
        self.assertEqual(line.bowler(10), -2)

    def test_as_many_do_not_win_at_the_opening(self):
        line = Line().ready()
        line.singles(5)
        line.must(line.penalty(1))
        line.all_out()
        line.must(line.open(0, 1), line.bowler(10))
        self.assertFalse(line.is_over())
        line.must(line.ball(kind=NO_BALL))
        self.assertTrue(line.is_over())


class Turns(unittest.TestCase):
    def test_sides_in_turn(self):
        # 3 and 5 by side 0, 1 by side 1: so seven behind at the last opening.
        line = Line(innings=2)
        line.whole_innings(3)
        line.whole_innings(1)
        line.whole_innings(5)
        self.assertEqual(line.lead(), 7)

    def test_sides_after_following_on(self):
        # 5 by side 0; 1 and 7 by side 1: so three behind at the last opening.
        line = Line(innings=2, follow=2)
        line.whole_innings(5)
        line.whole_innings(1)
        line.must(line.follow())
        line.whole_innings(7)
        self.assertEqual(line.lead(), 3)
