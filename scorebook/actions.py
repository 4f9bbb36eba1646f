"""The calls that change the book: a new match, the things that happen in it, and undo.

Each answers one number; of a refusal the book is as it was.
"""

from scorebook.ball import Ball
from scorebook.game import Game
from scorebook.rules import begin_rule, DONE, REFUSED, verdict_on

MOST_KEPT = 32768


class Book:
    """What one line of calls is about: a match, and what undo needs of each thing that was told of it."""

    def __init__(self):
        self.game = None
        self.kept = []

    def is_full(self):
        return len(self.kept) >= MOST_KEPT


def begin(book, numbers):
    verdict = begin_rule(numbers)
    if verdict == DONE:
        book.game = Game(numbers[0], numbers[1], numbers[2], numbers[3], numbers[4])
        book.kept = []
    return verdict


def open_innings(game, numbers):
    game.start_innings(numbers[0], numbers[1])


def tell_bowler(game, numbers):
    game.current().start_over(numbers[0])


def tell_ball(game, numbers):
    game.deliver(Ball(numbers))


def come_in(game, numbers):
    game.current().come_in(numbers[0])


def retire(game, numbers):
    game.retire(numbers[0], numbers[1])


def penalty(game, numbers):
    game.add_penalty(numbers[0])


def declare(game, numbers):
    game.close()


def follow_on(game, numbers):
    game.follow_on()


def draw(game, numbers):
    game.end_by_time()


# By the call's number less one.
THINGS = (open_innings, tell_bowler, tell_ball, come_in, retire, penalty, declare, follow_on, draw)


def tell(book, number, numbers):
    """Do what one of the calls from open to draw tells, if it may be, and keep it for undo."""
    verdict = verdict_on(book.game, number, numbers)
    if verdict == DONE and book.is_full():
        verdict = REFUSED
    if verdict == DONE:
        book.kept.append(book.game.snapshot())
        thing = THINGS[number - 1]
        thing(book.game, numbers)
    return verdict


def undo(book):
    if len(book.kept) == 0:
        return REFUSED
    book.game.restore(book.kept.pop())
    return DONE
