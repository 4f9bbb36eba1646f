"""Whether a thing may be told of the match now.

Each rule takes the match and the call's numbers and answers what the call is to answer; none changes anything.
What is wrong in the numbers themselves is looked at first, so that -1 goes before -2.
"""

from scorebook.ball import Ball, is_ball
from scorebook.innings import GOES_ON, PLAYERS

DONE = 0
WRONG = -1
REFUSED = -2


def done_if(allowed):
    return DONE if allowed else REFUSED


def begin_rule(numbers):
    innings_each = numbers[0]
    over_length = numbers[2]
    if innings_each < 1 or innings_each > 2 or over_length < 4 or over_length > 8:
        return WRONG
    if numbers[1] > 200 or numbers[3] > 200 or numbers[4] > 1000:
        return WRONG
    return DONE


def opening_rule(game, numbers):
    striker = numbers[0]
    other = numbers[1]
    if striker >= PLAYERS or other >= PLAYERS or striker == other:
        return WRONG
    return done_if(game.current() is None and not game.is_over())


def bowler_rule(game, numbers):
    player = numbers[0]
    if player >= PLAYERS:
        return WRONG
    return done_if(game.current() is not None and game.may_bowl(player))


def ball_rule(game, numbers):
    if not is_ball(Ball(numbers)):
        return WRONG
    innings = game.current()
    return done_if(innings is not None and innings.over_goes_on() and not innings.has_empty_end())


def coming_in_rule(game, numbers):
    player = numbers[0]
    if player >= PLAYERS:
        return WRONG
    innings = game.current()
    return done_if(innings is not None and innings.has_empty_end() and innings.may_come_in(player))


def retiring_rule(game, numbers):
    if numbers[0] > 1 or numbers[1] > 1:
        return WRONG
    innings = game.current()
    return done_if(innings is not None and not innings.has_empty_end())


def penalty_rule(game, numbers):
    if numbers[0] > 1:
        return WRONG
    return done_if(not game.is_over())


def closing_rule(game, numbers):
    return done_if(game.current() is not None and game.way_to_close() != GOES_ON)


def following_on_rule(game, numbers):
    return done_if(game.may_follow_on())


def drawing_rule(game, numbers):
    return done_if(game.may_be_drawn())


# By the call's number less one.
RULES = (
    opening_rule, bowler_rule, ball_rule, coming_in_rule, retiring_rule, penalty_rule, closing_rule,
    following_on_rule, drawing_rule,
)


def verdict_on(game, number, numbers):
    rule = RULES[number - 1]
    return rule(game, numbers)
