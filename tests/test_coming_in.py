"""Promise 5."""

import unittest

from line import Line, TOP


class ComingIn(unittest.TestCase):
    def one_gone(self, hurt=0):
        line = Line().ready(0, 1)
        line.must(line.retire(0, hurt))
        return line

    def test_players(self):
        for player, answer in ((2, 0), (10, 0), (11, -1), (258, -1), (TOP, -1)):
            with self.subTest(player=player):
                self.assertEqual(self.one_gone().come_in(player), answer)

    def test_wrong_comes_before_refused(self):
        line = Line()
        self.assertEqual(line.come_in(11), -1)
        line.ready()
        self.assertEqual(line.come_in(11), -1)

    def test_no_innings(self):
        line = Line()
        self.assertEqual(line.come_in(2), -2)
        line.whole_innings()
        self.assertEqual(line.come_in(2), -2)
        line.must(line.draw())
        self.assertEqual(line.come_in(2), -2)

    def test_no_end_is_empty(self):
        line = Line().ready()
        self.assertEqual(line.come_in(2), -2)
        line.must(line.retire(1, 1), line.come_in(2))
        self.assertEqual(line.come_in(1), -2)
        self.assertEqual(line.come_in(3), -2)

    def test_who_is_out(self):
        self.assertEqual(self.one_gone().come_in(0), -2)

    def test_who_is_out_by_a_ball(self):
        line = Line().ready()
        line.must(line.ball(how=1))
        self.assertEqual(line.come_in(0), -2)
        self.assertEqual(line.come_in(2), 0)

    def test_who_is_batting(self):
        self.assertEqual(self.one_gone().come_in(1), -2)
        self.assertEqual(self.one_gone(hurt=1).come_in(1), -2)

    def test_who_went_hurt(self):
        line = self.one_gone(hurt=1)
        line.must(line.come_in(2), line.retire(1, 0))
        self.assertEqual(line.come_in(0), 0)
        # No longer hurt but batting.
        line.must(line.retire(0, 0))
        self.assertEqual(line.come_in(0), -2)

    def test_who_went_hurt_and_then_out(self):
        line = self.one_gone(hurt=1)
        line.must(line.come_in(0), line.retire(0, 0))
        self.assertEqual(line.come_in(0), -2)

    def test_at_the_empty_end(self):
        for end in (0, 1):
            line = Line().ready(0, 1)
            line.must(line.retire(end, 0), line.come_in(5))
            self.assertEqual(line.at_end(end, 5, 1 - end), 5)
            self.assertEqual(line.at_end(1 - end, 5, 1 - end), 1 - end)

    def test_the_same_end_stays_empty_when_refused(self):
        line = self.one_gone()
        self.assertEqual(line.come_in(0), -2)
        self.assertEqual(line.come_in(11), -1)
        self.assertEqual(line.ball(), -2)
        self.assertEqual(line.come_in(2), 0)
        self.assertEqual(line.ball(), 0)
