"""How the calls are written, how the answers are, and that nothing is kept or changed."""

import contextlib
import io
import random
import unittest

from line import Line
from scorebook.actions import Book, act
from scorebook.book import SIZES, answers


def random_call(rng):
    """A call that is often, but by no means always, allowed."""
    number = rng.choice((1, 2, 2, 3, 3, 3, 3, 3, 3, 4, 4, 5, 6, 7, 8, 9) if rng.random() < 0.3 else (1, 2, 3, 3, 3, 4, 4))
    if number == 3:
        runs = rng.choice((0, 0, 1, 2, 3, 4, 6))
        how = rng.choice((0, 0, 0, 1, 2, 5, 6, 7))
        fielder = rng.choice((0, 11)) if how in (2, 6) else 11
        numbers = [rng.choice((0, 0, 0, 1, 2)), rng.choice((0, 0, 0, 1)), 0 if how in (1, 2, 5) else runs,
                   rng.choice((0, 0, 0, 1)), how, 0, 0, fielder]
        if how in (6, 7):
            numbers[5:7] = [rng.randrange(2), rng.randrange(2)]
    elif number == 5 or number == 6:
        numbers = [rng.choice((0, 1, 1, 2)) for _ in range(SIZES[number])]
    else:
        numbers = [rng.randrange(12) for _ in range(SIZES[number])]
    return [number, *numbers]


def state(value):
    """All that an object holds, as plain values."""
    if isinstance(value, (list, tuple)):
        return [state(part) for part in value]
    if hasattr(value, "__dict__"):
        return {name: state(part) for name, part in vars(value).items()}
    return value


class Written(unittest.TestCase):
    def test_answers_of_one_number(self):
        self.assertEqual(answers([0, 1, 0, 6, 0, 0]), [1, 0])
        self.assertEqual(answers([0, 1, 0, 6, 0, 0, 1, 0, 1, 2, 10, 3, 0, 0, 1, 0, 0, 0, 0, 11]), [1, 0] * 4)

    def test_each_call_takes_its_numbers(self):
        calls = [0, 2, 0, 4, 0, 1, 1, 0, 1, 2, 10, 3, 0, 0, 3, 0, 0, 0, 0, 11, 5, 0, 1, 4, 2, 6, 0, 7,
                 1, 4, 4, 1, 4, 5, 7, 8, 8, 9, 9]
        expected = [0, 0, 0, 0, 0, 0, 0, 0, -1, 0, 0, 0, -2, 0, -2]
        self.assertEqual(answers(calls), [number for answer in expected for number in (1, answer)])

    def test_kinds(self):
        found = answers([0, 1, 0, 6, 0, 0, 1, 0, 0, 1, 0, 1, 7, 8])
        self.assertIs(type(found), list)
        self.assertEqual({type(number) for number in found}, {int})

    def test_as_many_calls_as_there_may_be(self):
        calls = [0, 1, 0, 6, 0, 0, 1, 0, 1, 2, 10]
        calls += 2997 * [3, 2, 0, 0, 0, 0, 0, 0, 11]
        self.assertEqual(answers(calls), 3000 * [1, 0])


class Kept(unittest.TestCase):
    def test_what_is_handed_in_is_not_changed(self):
        line = Line(innings=2).ready()
        line.must(line.ball(how=1), line.come_in(2), line.penalty(1), line.declare())
        before = list(line.calls)
        answers(line.calls)
        self.assertEqual(line.calls, before)

    def test_each_time_as_if_for_the_first_time(self):
        line = Line().ready()
        line.must(line.penalty(1), line.draw())
        first = answers(line.calls)
        self.assertEqual(answers([0, 1, 0, 6, 0, 0, 2, 10]), [1, 0, 1, -2])
        self.assertEqual(answers(line.calls), first)

    def test_nothing_is_printed(self):
        line = Line().ready()
        shown = io.StringIO()
        with contextlib.redirect_stdout(shown), contextlib.redirect_stderr(shown):
            line.ball()
            line.ball(kind=9)
        self.assertEqual(shown.getvalue(), "")

    def test_a_refusal_changes_nothing(self):
        rng = random.Random(20)
        refused = done = 0
        for _ in range(60):
            book = Book()
            act(book, 0, [rng.choice((1, 2)), rng.choice((0, 2)), rng.choice((4, 6)), rng.choice((0, 1, 2)), 1])
            for _ in range(150):
                call = random_call(rng)
                before = state(book)
                if act(book, call[0], call[1:]) < 0:
                    refused += 1
                    self.assertEqual(state(book), before, call)
                else:
                    done += 1
                    self.assertNotEqual(state(book), before, call)
        self.assertGreater(refused, 500)
        self.assertGreater(done, 500)
