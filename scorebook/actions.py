"""The calls that change the book: each looks whether it is allowed, then does it.

Each takes the book and the call's numbers, and answers one number.
"""

from scorebook.ball import Ball, is_ball
from scorebook.game import Game
from scorebook.innings import GOES_ON, PLAYERS

DONE = 0
WRONG = -1
REFUSED = -2


class Book:
    """What one line of calls is about; a begin that is allowed puts a new match in it."""

    def __init__(self):
        self.game = None


def begin(book, numbers):
    innings_each = numbers[0]
    over_length = numbers[2]
    if innings_each < 1 or innings_each > 2 or over_length < 4 or over_length > 8:
        return WRONG
    if numbers[1] > 200 or numbers[3] > 200 or numbers[4] > 1000:
        return WRONG
    book.game = Game(innings_each, numbers[1], over_length, numbers[3], numbers[4])
    return DONE


def open_innings(book, numbers):
    striker = numbers[0]
    other = numbers[1]
    if striker >= PLAYERS or other >= PLAYERS or striker == other:
        return WRONG
    if book.game.current() is not None or book.game.is_over():
        return REFUSED
    book.game.start_innings(striker, other)
    return DONE


def tell_bowler(book, numbers):
    player = numbers[0]
    if player >= PLAYERS:
        return WRONG
    innings = book.game.current()
    if innings is None or not book.game.may_bowl(player):
        return REFUSED
    innings.start_over(player)
    return DONE


def tell_ball(book, numbers):
    ball = Ball(numbers)
    if not is_ball(ball):
        return WRONG
    innings = book.game.current()
    if innings is None or not innings.over_goes_on() or innings.has_empty_end():
        return REFUSED
    innings.deliver(ball)
    book.game.look_for_end()
    return DONE


def come_in(book, numbers):
    player = numbers[0]
    if player >= PLAYERS:
        return WRONG
    innings = book.game.current()
    if innings is None or not innings.has_empty_end() or not innings.may_come_in(player):
        return REFUSED
    innings.come_in(player)
    return DONE


def retire(book, numbers):
    end = numbers[0]
    hurt = numbers[1]
    if end > 1 or hurt > 1:
        return WRONG
    innings = book.game.current()
    if innings is None or innings.has_empty_end():
        return REFUSED
    innings.retire(end, hurt)
    book.game.look_for_end()
    return DONE


def penalty(book, numbers):
    side = numbers[0]
    if side > 1:
        return WRONG
    if book.game.is_over():
        return REFUSED
    book.game.add_penalty(side)
    return DONE


def declare(book, numbers):
    innings = book.game.current()
    if innings is None:
        return REFUSED
    way = book.game.way_to_close()
    if way == GOES_ON:
        return REFUSED
    innings.ended = way
    return DONE


def follow_on(book, numbers):
    if not book.game.may_follow_on():
        return REFUSED
    book.game.followed_on = True
    return DONE


def draw(book, numbers):
    if not book.game.may_be_drawn():
        return REFUSED
    book.game.end_by_time()
    return DONE


# By the call's number.
ACTIONS = (begin, open_innings, tell_bowler, tell_ball, come_in, retire, penalty, declare, follow_on, draw)


def act(book, number, numbers):
    action = ACTIONS[number]
    return action(book, numbers)
