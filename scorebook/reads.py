"""The calls that read the book: each takes the match and the call's numbers, and gives back all that is answered."""

from scorebook.innings import PLAYERS
from scorebook.rules import DONE, REFUSED, WRONG


def now(game, numbers):
    if len(game.played) == 0:
        return [REFUSED]
    last = game.played[-1]
    score = [last.sums.balls, last.sums.runs, last.wickets_down()]
    return [DONE, len(game.played), last.side] + last.ends + [last.who_bowls()] + score


def total(game, numbers):
    if numbers[0] >= len(game.played):
        return [WRONG]
    innings = game.played[numbers[0]]
    sums = innings.sums
    extras = [sums.wides, sums.no_balls, sums.byes, sums.leg_byes, sums.penalties]
    return [DONE, innings.side, sums.runs, innings.wickets_down(), sums.balls] + extras + [innings.ended]


def batter(game, numbers):
    if numbers[0] >= len(game.played) or numbers[1] >= PLAYERS:
        return [WRONG]
    innings = game.played[numbers[0]]
    return [DONE] + innings.batters[numbers[1]].numbers()


def bowling(game, numbers):
    if numbers[0] >= len(game.played) or numbers[1] >= PLAYERS:
        return [WRONG]
    innings = game.played[numbers[0]]
    return [DONE] + innings.figures[numbers[1]].numbers()


def fall(game, numbers):
    if numbers[0] >= len(game.played):
        return [WRONG]
    falls = game.played[numbers[0]].falls
    if numbers[1] >= len(falls):
        return [WRONG]
    return [DONE] + list(falls[numbers[1]])


def stand(game, numbers):
    if numbers[0] >= len(game.played):
        return [WRONG]
    stands = game.played[numbers[0]].stands
    if numbers[1] >= len(stands):
        return [WRONG]
    return [DONE] + stands[numbers[1]].numbers()


def over(game, numbers):
    if numbers[0] >= len(game.played):
        return [WRONG]
    innings = game.played[numbers[0]]
    if numbers[1] >= len(innings.overs):
        return [WRONG]
    text = innings.over_text(numbers[1])
    if len(text) > numbers[2]:
        return [len(text)]
    return [len(text)] + [ord(sign) for sign in text]


def result(game, numbers):
    return [DONE] + game.outcome()


# In the order of the calls' numbers.
READS = (now, total, batter, bowling, fall, stand, over, result)


def read(game, place, numbers):
    """What the call at this place among those that read the book answers."""
    reader = READS[place]
    return reader(game, numbers)
