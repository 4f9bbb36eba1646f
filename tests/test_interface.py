"""How the calls are written, how the answers are, and that nothing is kept or changed."""

import contextlib
import io
import random
import unittest

from line import Line, line_of, random_line, split
from scorebook.actions import Book
from scorebook.book import answer_one, answers

BALL = [3, 2, 0, 0, 0, 0, 0, 0, 11]


def state(value):
    """All that an object holds, as plain values."""
    if isinstance(value, (list, tuple)):
        return [state(part) for part in value]
    if hasattr(value, "__dict__"):
        return {name: state(part) for name, part in vars(value).items()}
    return value


class Written(unittest.TestCase):
    def test_answers_of_one_number(self):
        self.assertEqual(answers([0, 1, 0, 6, 0, 0]), [1, 0])
        self.assertEqual(answers([0, 1, 0, 6, 0, 0, 1, 0, 1, 2, 10, 3, 0, 0, 1, 0, 0, 0, 0, 11]), [1, 0] * 4)

    def test_each_call_takes_its_numbers(self):
        calls = [0, 2, 0, 4, 0, 1, 1, 0, 1, 2, 10, 3, 0, 0, 3, 0, 0, 0, 0, 11, 5, 0, 1, 4, 2, 6, 0, 7,
                 1, 4, 4, 1, 4, 5, 7, 8, 8, 9, 9, 10, 9]
        expected = [0, 0, 0, 0, 0, 0, 0, 0, -1, 0, 0, 0, -2, 0, -2, 0, 0]
        self.assertEqual(answers(calls), [number for answer in expected for number in (1, answer)])

    def test_answers_of_several_numbers(self):
        start = [0, 1, 0, 6, 0, 0, 1, 5, 6, 2, 10, 3, 1, 0, 0, 0, 4, 0, 0, 9]
        reads = [11, 12, 0, 13, 0, 5, 14, 0, 10, 15, 0, 0, 16, 0, 0, 17, 0, 0, 4, 17, 0, 0, 3, 18, 4, 7]
        found = answers(start + reads)
        self.assertEqual(found[:8], [1, 0] * 4)
        self.assertEqual(found[8:], [
            9, 0, 1, 0, 11, 6, 10, 0, 1, 1,
            11, 0, 0, 1, 1, 0, 1, 0, 0, 0, 0, 0,
            9, 0, 1, 0, 0, 0, 0, 4, 10, 9,
            7, 0, 0, 0, 1, 1, 1, 0,
            4, 0, 1, 5, 0,
            5, 0, 5, 6, 1, 0,
            5, 4, 49, 119, 100, 87,
            1, 4,
            3, 0, 0, 0,
            1, 0])

    def test_a_refusal_is_its_number_alone(self):
        reads = [11, 12, 0, 13, 0, 0, 14, 0, 0, 15, 0, 0, 16, 0, 0, 17, 0, 0, 9, 10]
        self.assertEqual(answers([0, 1, 0, 6, 0, 0] + reads)[2:], [1, -2] + 6 * [1, -1] + [1, -2])

    def test_kinds(self):
        line = Line().ready()
        line.must(line.ball(runs=1), line.ball(how=1), line.undo())
        found = answers(line.calls + [11, 12, 0, 13, 0, 0, 14, 0, 10, 15, 0, 0, 16, 0, 0, 17, 0, 0, 99, 18, 1, 0, 0])
        self.assertIs(type(found), list)
        self.assertEqual({type(number) for number in found}, {int})


class Long(unittest.TestCase):
    """As many calls as there may be; none of these is gone through by calls within one another."""

    START = [0, 1, 0, 6, 0, 0, 1, 0, 1, 2, 10]

    def test_balls(self):
        self.assertEqual(answers(self.START + 2997 * BALL), 3000 * [1, 0])

    def test_undo_after_undo(self):
        found = answers(self.START + 1498 * BALL + 1499 * [10])
        self.assertEqual(found, 3000 * [1, 0])
        found = answers(self.START + 1490 * BALL + 1494 * [10] + [11])
        self.assertEqual(found, 2985 * [1, 0] + [1, -2, 1, -2, 1, -2])

    def test_undo_by_turns(self):
        found = answers(self.START + 1000 * BALL + 998 * (BALL + [10]) + [11])
        self.assertEqual(found, 2999 * [1, 0] + [9, 0, 1, 0, 0, 1, 10, 0, 1000, 0])

    def test_one_over_read_again_and_again(self):
        found = split(answers(self.START + 2500 * BALL + 497 * [17, 0, 0, 0]))
        self.assertEqual(found[2503:], 497 * [[7499]])
        found = split(answers(self.START + 2996 * BALL + [17, 0, 0, 8987]))
        self.assertEqual(bytes(found[-1][1:]), b" ".join(2996 * [b"nb"]))

    def test_partnerships(self):
        start = [0, 1, 0, 6, 0, 0, 1, 0, 1]
        found = split(answers(start + 1498 * [5, 0, 1, 4, 0] + [16, 0, 1498, 16, 0, 1499]))
        self.assertEqual(found, 2998 * [[0]] + [[0, 1, 0, 0, 0], [-1]])


class Kept(unittest.TestCase):
    def test_what_is_handed_in_is_not_changed(self):
        line = Line(innings=2).ready()
        line.must(line.ball(how=1), line.come_in(2), line.penalty(1), line.declare(), line.undo())
        line.calls.extend([11, 12, 0, 13, 0, 0, 14, 0, 0, 15, 0, 0, 16, 0, 0, 17, 0, 0, 50, 18])
        before = list(line.calls)
        answers(line.calls)
        self.assertEqual(line.calls, before)

    def test_what_is_given_back_is_new(self):
        calls = [0, 1, 0, 6, 0, 0, 1, 0, 1, 11, 16, 0, 0]
        first = answers(calls)
        expected = list(first)
        first.clear()
        self.assertEqual(answers(calls), expected)

    def test_each_time_as_if_for_the_first_time(self):
        line = Line().ready()
        line.must(line.penalty(1), line.draw())
        first = answers(line.calls)
        self.assertEqual(answers([0, 1, 0, 6, 0, 0, 2, 10]), [1, 0, 1, -2])
        self.assertEqual(answers([0, 1, 0, 6, 0, 0, 10, 11]), [1, 0, 1, -2, 1, -2])
        self.assertEqual(answers(line.calls), first)

    def test_nothing_is_printed(self):
        line = Line().ready()
        shown = io.StringIO()
        with contextlib.redirect_stdout(shown), contextlib.redirect_stderr(shown):
            line.ball()
            line.ball(kind=9)
            line.undo()
            line.books()
        self.assertEqual(shown.getvalue(), "")


class Refusals(unittest.TestCase):
    def test_a_refusal_changes_nothing(self):
        rng = random.Random(20)
        refused = done = 0
        for _ in range(40):
            book = Book()
            for call, _ in random_line(rng, 150, undo_share=0.1):
                before = state(book.game)
                kept = len(book.kept)
                if answer_one(book, call[0], call[1:])[0] < 0:
                    refused += 1
                    self.assertEqual(state(book.game), before, call)
                    self.assertEqual(len(book.kept), kept)
                else:
                    done += 1
                    self.assertNotEqual(state(book.game), before, call)
        self.assertGreater(refused, 500)
        self.assertGreater(done, 500)

    def test_what_was_refused_might_as_well_not_have_been_called(self):
        rng = random.Random(21)
        for _ in range(30):
            calls = random_line(rng, 120)
            done = [call for call, answer in calls if answer == 0]
            self.assertLess(len(done), len(calls))
            self.assertEqual(line_of([call for call, _ in calls]).books(), line_of(done).books())

    def test_reading_changes_nothing(self):
        rng = random.Random(22)
        for _ in range(20):
            book = Book()
            for call, _ in random_line(rng, 60):
                answer_one(book, call[0], call[1:])
                before = (state(book.game), len(book.kept))
                for number, sizes in ((11, 0), (12, 1), (13, 2), (14, 2), (15, 2), (16, 2), (17, 3), (18, 0)):
                    answer_one(book, number, [rng.randrange(3) for _ in range(sizes)])
                self.assertEqual((state(book.game), len(book.kept)), before)
