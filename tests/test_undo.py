"""Promises 9 and 10."""

import random
import unittest

from line import BYES, Line, line_of, NO_BALL, random_line, split, TOP, WIDE
from scorebook.book import answers


class Checked(unittest.TestCase):
    """A thing is undone: every book is as it was, and the same thing may be told again."""

    def check(self, line, *call, seen=True):
        before = line.books()
        self.assertEqual(line.call(*call), 0)
        after = line.books()
        if seen:
            self.assertNotEqual(after, before)
        self.assertEqual(line.undo(), 0)
        self.assertEqual(line.books(), before)
        self.assertEqual(line.call(*call), 0)
        self.assertEqual(line.books(), after)
        self.assertEqual(line.undo(), 0)
        self.assertEqual(line.books(), before)
        return line

    def check_ball(self, line, kind=0, off=0, runs=0, over_line=0, how=0, out=0, end=0, fielder=11):
        return self.check(line, 3, kind, off, runs, over_line, how, out, end, fielder)


class Things(Checked):
    """Each kind of thing."""

    def in_play(self):
        """Some of everything has happened; players 2 and 1 bat, 10 bowls the second over."""
        line = Line(innings=2, balls=4, follow=1).ready(0, 1, 9)
        line.must(line.ball(runs=1), line.ball(kind=WIDE), line.ball(kind=NO_BALL, runs=4, line=1), line.ball(how=1),
                  line.come_in(2), line.ball(off=BYES, runs=2), line.ball(runs=1), line.penalty(0), line.bowler(10),
                  line.ball(runs=6, line=1))
        return line

    def test_open(self):
        line = self.check(Line(), 1, 5, 6)
        self.assertEqual(line.now(), [-2])
        line = self.in_play()
        line.must(line.declare())
        self.check(line, 1, 5, 6)
        self.assertEqual(line.now()[1:3], [1, 0])

    def test_bowler(self):
        line = Line(balls=4)
        line.must(line.open())
        self.check(line, 2, 9)
        line.must(line.bowler(9))
        line.over(4)
        self.check(line, 2, 8)
        self.assertEqual(line.bowler(9), -2)

    def test_bowler_may_bowl_as_many_overs_as_before(self):
        line = Line(balls=4, most=1)
        line.must(line.open())
        self.check(line, 2, 9)
        self.assertEqual(line.bowler(9), 0)

    def test_balls(self):
        self.check_ball(self.in_play())
        self.check_ball(self.in_play(), runs=3)
        self.check_ball(self.in_play(), runs=4, over_line=1)
        self.check_ball(self.in_play(), runs=6, over_line=1)
        self.check_ball(self.in_play(), off=1, runs=4, over_line=1)
        self.check_ball(self.in_play(), off=2, runs=1)
        self.check_ball(self.in_play(), kind=WIDE, runs=1)
        self.check_ball(self.in_play(), kind=NO_BALL)
        self.check_ball(self.in_play(), kind=NO_BALL, off=1, runs=2)

    def test_wickets(self):
        for how, fielder in ((1, 11), (2, 3), (3, 11), (4, 3), (5, 11), (6, 3), (7, 11), (8, 11)):
            self.check_ball(self.in_play(), how=how, fielder=fielder)
        for out, end in ((0, 0), (0, 1), (1, 0), (1, 1)):
            self.check_ball(self.in_play(), how=6, runs=1, out=out, end=end)
            self.check_ball(self.in_play(), kind=NO_BALL, how=7, runs=1, out=out, end=end)
        self.check_ball(self.in_play(), kind=WIDE, how=4, fielder=0)

    def test_in(self):
        for end in (0, 1):
            line = self.in_play()
            line.must(line.retire(end, 0))
            self.check(line, 4, 5)

    def test_in_again(self):
        line = self.in_play()
        line.must(line.retire(0, 1))
        self.check(line, 4, 5)
        line.must(line.come_in(5), line.retire(1, 1))
        self.check(line, 4, 2)
        self.assertEqual(line.come_in(2), 0)

    def test_retire(self):
        for end in (0, 1):
            for hurt in (0, 1):
                line = self.check(self.in_play(), 5, end, hurt)
                self.assertEqual(line.ball(), 0)

    def test_penalty(self):
        line = self.check(self.in_play(), 6, 0)
        line.must(line.declare())
        self.check(line, 6, 0)
        line.must(line.open())
        self.check(line, 6, 0)
        self.check(line, 6, 1)

    def test_penalty_to_an_innings_that_is_not_the_last_two(self):
        line = Line(innings=2, follow=1)
        line.whole_innings(9)
        line.whole_innings(1)
        line.must(line.follow(), line.open())
        self.check(line, 6, 0)
        self.check(line, 6, 1)
        self.assertEqual(line.total(0)[2], 9)

    def test_penalty_that_was_owed(self):
        line = self.check(Line(), 6, 0, seen=False)
        line.must(line.open())
        self.assertEqual(line.total(0)[2], 0)
        self.check(line, 6, 1, seen=False)
        line.must(line.penalty(1), line.penalty(1), line.undo(), line.declare(), line.open())
        self.assertEqual(line.total(1)[2], 5)

    def test_opening_that_paid_what_was_owed(self):
        line = Line()
        line.must(line.penalty(0), line.penalty(1))
        self.check(line, 1, 0, 1)
        line.must(line.open(5, 6))
        self.assertEqual(line.total(0)[2], 5)
        line.must(line.undo(), line.undo(), line.open(5, 6))
        self.assertEqual(line.total(0)[2], 5)
        line.must(line.undo(), line.undo(), line.open(5, 6))
        self.assertEqual(line.total(0)[2], 0)

    def test_declare(self):
        line = self.check(self.in_play(), 7)
        self.assertEqual(line.ball(), 0)
        line.must(line.retire(0, 1))
        self.check(line, 7)
        self.assertEqual(line.come_in(3), 0)

    def test_follow(self):
        line = Line(innings=2, follow=3)
        line.whole_innings(5)
        line.whole_innings(2)
        self.check(line, 8, seen=False)
        line.must(line.follow())
        self.assertEqual(line.follow(), -2)
        line.must(line.open())
        self.assertEqual(line.total(2)[1], 1)
        line.must(line.undo(), line.undo(), line.open())
        self.assertEqual(line.total(2)[1], 0)

    def test_what_came_behind_follow(self):
        line = Line(innings=2, follow=3)
        line.whole_innings(5)
        line.whole_innings(2)
        line.must(line.follow())
        self.check(line, 1, 0, 1)
        self.assertEqual(line.follow(), -2)
        line.must(line.open())
        self.assertEqual(line.total(2)[1], 1)
        line.must(line.penalty(1), line.declare(), line.undo(), line.declare(), line.open())
        self.assertEqual(line.total(3)[1], 0)

    def test_draw(self):
        line = self.check(self.in_play(), 9)
        self.assertEqual(line.ball(), 0)
        line.must(line.declare())
        self.check(line, 9)
        self.assertEqual(line.open(), 0)


class Ends(Checked):
    """What ended an over, an innings, the match."""

    def test_end_of_an_over(self):
        for runs in (0, 1, 2):
            line = Line(balls=4).ready(0, 1, 9)
            line.over(3)
            self.check_ball(line, runs=runs)
            self.assertEqual(line.now()[3:6], [0, 1, 9])
            self.assertEqual(line.bowler(8), -2)
            self.assertEqual(line.ball(), 0)

    def test_end_of_an_over_by_a_wicket(self):
        line = Line(balls=4).ready(0, 1, 9)
        line.over(3)
        self.check_ball(line, how=6, runs=1, out=1, end=1)

    def test_all_out(self):
        line = Line().ready()
        line.lose_wickets(9, 2)
        self.check_ball(line, how=1)
        self.check(line, 5, 0, 0)
        self.assertTrue(line.goes_on())

    def test_overs_bowled(self):
        line = Line(overs=1, balls=4).ready()
        line.over(3)
        self.check_ball(line)
        self.check_ball(line, how=1)
        self.assertTrue(line.goes_on())

    def test_only_who_went_hurt(self):
        line = Line(overs=2)
        line.must(line.open())
        line.lose_wickets(9, 2)
        line.must(line.retire(0, 1))
        self.check(line, 7)
        self.assertEqual(line.come_in(10), 0)

    def test_match_won(self):
        line = Line()
        line.whole_innings(2)
        line.ready()
        self.check_ball(line, runs=3)
        self.check(line, 6, 1)
        self.check(line, 7)
        self.assertFalse(line.is_over())
        line.lose_wickets(9, 2)
        self.check_ball(line, how=1)
        self.assertEqual(line.ball(), 0)

    def test_match_won_at_the_opening(self):
        line = Line()
        line.must(line.penalty(1))
        line.whole_innings(4)
        self.check(line, 1, 0, 1)
        line.must(line.undo())
        self.assertEqual(line.result(), [0, 0, 0])

    def test_match_won_by_an_innings(self):
        line = Line(innings=2)
        line.whole_innings(0)
        line.whole_innings(3)
        line.must(line.open())
        self.check(line, 7)
        line.must(line.declare(), line.undo(), line.bowler(3))
        line.singles(4)
        line.must(line.declare())
        self.check(line, 6, 1)
        self.assertEqual(line.open(), 0)


class Again(unittest.TestCase):
    def test_back_to_the_beginning(self):
        line = Line(innings=2, balls=4, follow=1)
        steps = [line.books()]

        def do(*call):
            self.assertEqual(line.call(*call), 0)
            steps.append(line.books())

        do(6, 1)
        do(1, 0, 1)
        do(2, 9)
        for _ in range(3):
            do(3, 0, 0, 3, 0, 0, 0, 0, 11)
        do(5, 0, 1)
        do(4, 2)
        do(3, 0, 0, 0, 0, 2, 0, 0, 7)
        do(2, 8)
        do(4, 1)
        do(6, 0)
        do(7)
        do(1, 3, 4)
        do(7)
        do(8)
        do(1, 3, 4)
        do(9)
        for expected in reversed(steps[:-1]):
            self.assertEqual(line.undo(), 0)
            self.assertEqual(line.books(), expected)
        self.assertEqual(line.undo(), -2)
        self.assertEqual(line.undo(), -2)
        self.assertEqual(line.books(), steps[0])

    def test_nothing_to_be_undone(self):
        self.assertEqual(Line().undo(), -2)

    def test_what_was_refused_is_nothing_to_be_undone(self):
        line = Line()
        self.assertEqual([line.open(0, 0), line.ball(), line.bowler(11), line.declare(), line.draw()],
                         [-1, -2, -1, -2, -2])
        self.assertEqual(line.undo(), -2)
        line.ready(7, 3, 10)
        self.assertEqual([line.bowler(9), line.ball(runs=10), line.come_in(0)], [-2, -1, -2])
        self.assertEqual(line.undo(), 0)
        self.assertEqual(line.now(), [0, 1, 0, 7, 3, 11, 0, 0, 0])

    def test_what_reads_is_nothing_to_be_undone(self):
        line = Line()
        line.must(line.open())
        reads = [11, 12, 0, 13, 0, 0, 14, 0, 0, 15, 0, 0, 16, 0, 0, 17, 0, 0, 9, 18]
        found = split(answers(line.calls + reads + [10, 11, 10] + reads + [10]))
        self.assertEqual(found[10:13], [[0], [-2], [-2]])
        self.assertEqual(found[-1], [-2])

    def test_undo_is_nothing_to_be_undone(self):
        line = Line()
        line.must(line.penalty(0), line.open(), line.undo())
        self.assertEqual([line.undo(), line.undo()], [0, -2])

    def test_begin_leaves_nothing(self):
        line = Line().ready()
        line.must(line.begin(1, 0, 6, 0, 0))
        self.assertEqual(line.undo(), -2)
        self.assertEqual(line.now(), [-2])
        line.must(line.open(5, 6))
        self.assertEqual([line.undo(), line.undo()], [0, -2])

    def test_begin_that_is_refused_leaves_all(self):
        line = Line().ready(7, 3, 10)
        self.assertEqual(line.begin(3, 0, 6, 0, 0), -1)
        self.assertEqual(line.now()[5], 10)
        self.assertEqual(line.undo(), 0)
        self.assertEqual(line.now()[5], 11)
        self.assertEqual([line.undo(), line.undo()], [0, -2])

    def test_the_line_goes_on_otherwise(self):
        line = Line(balls=4).ready(7, 3, 10)
        line.must(line.ball(how=1), line.undo(), line.ball(runs=1), line.ball(kind=WIDE), line.undo(),
                  line.ball(runs=2))
        straight = Line(balls=4).ready(7, 3, 10)
        straight.must(straight.ball(runs=1), straight.ball(runs=2))
        self.assertEqual(line.books(), straight.books())
        self.assertEqual(line.over_text(0, 0), "1 2")

    def test_another_innings_in_the_place_of_one_that_was_undone(self):
        line = Line(innings=2)
        line.must(line.open(0, 1), line.bowler(5), line.ball(runs=4), line.undo(), line.undo(), line.undo(),
                  line.open(8, 9))
        self.assertEqual(line.now(), [0, 1, 0, 8, 9, 11, 0, 0, 0])
        self.assertEqual(line.batter(0, 0)[1], 0)
        self.assertEqual(line.over_bytes(0, 0), [-1])


class AnyLine(unittest.TestCase):
    def test_as_if_it_had_never_been(self):
        rng = random.Random(9)
        undone = 0
        for _ in range(60):
            calls = random_line(rng, 120, undo_share=0.25)
            left = []
            for call, answer in calls[1:]:
                if call == [10]:
                    self.assertEqual(answer, 0 if left else -2)
                    undone += 1 if left else 0
                    left = left[:-1]
                elif answer == 0:
                    left.append(call)
            line = line_of([call for call, _ in calls])
            straight = line_of([calls[0][0], *left])
            self.assertEqual(line.books(), straight.books())
            # What can't be read yet shows in what follows.
            for follower in ([8], [6, 0], [1, 0, 1], [2, 3], [4, 5], [3, 0, 0, 1, 0, 0, 0, 0, 11], [9]):
                self.assertEqual(line.call(*follower), straight.call(*follower))
            self.assertEqual(line.books(), straight.books())
        self.assertGreater(undone, 500)

    def test_all_the_way_back(self):
        rng = random.Random(10)
        for _ in range(20):
            calls = [call for call, answer in random_line(rng, 80) if answer == 0]
            line = line_of(calls)
            for count in range(len(calls) - 1, 0, -1):
                self.assertEqual(line.undo(), 0)
                if count % 7 == 1:
                    self.assertEqual(line.books(), line_of(calls[:count]).books())
            self.assertEqual(line.undo(), -2)


class Most(unittest.TestCase):
    """A line as long as this is more than may be handed in, but the book's own bound lies there."""

    KEPT = 32768

    def after(self, *calls, kept=KEPT):
        """What is answered behind so many penalties."""
        start = [0, 1, 0, 6, 0, 0] + kept * [6, 0]
        found = answers(start + [number for call in calls for number in call])
        self.assertEqual(found[:2 * kept + 2], (kept + 1) * [1, 0])
        return split(found[2 * kept + 2:])

    def test_another_is_refused(self):
        self.assertEqual(self.after([6, 0], [6, 1], [1, 0, 1]), [[-2], [-2], [-2]])

    def test_one_less(self):
        self.assertEqual(self.after([1, 0, 1], [2, 3], kept=self.KEPT - 1), [[0], [-2]])

    def test_each_thing_is_refused(self):
        found = self.after([1, 0, 1], [2, 9], [3, 0, 0, 0, 0, 0, 0, 0, 11], [5, 0, 0], [6, 0], [7], [9],
                           kept=self.KEPT - 1)
        self.assertEqual(found, [[0]] + 6 * [[-2]])
        found = self.after([1, 0, 1], [2, 9], [3, 0, 0, 0, 0, 0, 0, 0, 11], kept=self.KEPT - 2)
        self.assertEqual(found, [[0], [0], [-2]])
        found = self.after([1, 0, 1], [5, 0, 0], [4, 2], kept=self.KEPT - 2)
        self.assertEqual(found, [[0], [0], [-2]])

    def test_wrong_comes_before_refused(self):
        calls = [6, 2], [1, 4, 4], [2, 11], [3, 3, 0, 0, 0, 0, 0, 0, 11], [4, TOP], [5, 2, 0]
        self.assertEqual(self.after(*calls), 6 * [[-1]])

    def test_reading_goes_on(self):
        self.assertEqual(self.after([11], [18], [12, 0]), [[-2], [0, 0, 0], [-1]])

    def test_undo_makes_room(self):
        found = self.after([10], [6, 0], [6, 0], [10], [10], [1, 0, 1], [12, 0], [6, 0], [6, 0])
        self.assertEqual(found, [[0], [0], [-2], [0], [0], [0],
                                 [0, 0, 5 * 32766, 0, 0, 0, 0, 0, 0, 5 * 32766, 0], [0], [-2]])

    def test_begin_makes_room(self):
        self.assertEqual(self.after([0, 3, 0, 6, 0, 0], [6, 0], [0, 1, 0, 6, 0, 0], [6, 0], [10], [10]),
                         [[-1], [-2], [0], [0], [0], [-2]])
