"""One innings: who bats, who bowls, and the books that are kept of it."""

from scorebook.ball import NOBODY, NOT_OUT
from scorebook.notation import written
from scorebook.records import new_batter, new_figures, Over, Stand, Sums, WENT_HURT, WENT_OUT

PLAYERS = 11
GOES_ON = 0


class Innings:
    """The innings of one side; ends holds who is at the striker's end, then who is at the other."""

    def __init__(self, side, over_length, striker, other):
        self.side = side
        self.over_length = over_length
        self.ended = GOES_ON
        self.ends = [striker, other]
        self.sums = Sums(0, 0, 0, 0, 0, 0, 0)
        self.batters = [new_batter() for player in range(PLAYERS)]
        self.figures = [new_figures() for player in range(PLAYERS)]
        self.overs = []
        self.told = []
        self.falls = []
        self.stands = [Stand(striker, other, 0, 0)]
        self.give_place(striker)
        self.give_place(other)

    def give_place(self, player):
        place = self.batters[player].place
        # Who went hurt keeps the old place in the order.
        if place == 0:
            place = self.been_in() + 1
        self.batters[player] = self.batters[player].come(place)

    def been_in(self):
        return len([batter for batter in self.batters if batter.place > 0])

    def wickets_down(self):
        return len(self.falls)

    def has_empty_end(self):
        return NOBODY in self.ends

    def may_come_in(self, player):
        return self.batters[player].may_come_in()

    def somebody_may_come_in(self):
        return any([batter.may_come_in() for batter in self.batters])

    def somebody_has_not_been_in(self):
        return self.been_in() < PLAYERS

    def come_in(self, player):
        empty = self.ends.index(NOBODY)
        self.stands.append(Stand(self.ends[1 - empty], player, 0, 0))
        self.ends[empty] = player
        self.give_place(player)

    def over_goes_on(self):
        return len(self.overs) > 0 and self.overs[-1].balls < self.over_length

    def who_bowls(self):
        return self.overs[-1].bowler if self.over_goes_on() else NOBODY

    def bowled_last_over(self, player):
        return len(self.overs) > 0 and self.overs[-1].bowler == player

    def overs_of(self, player):
        return len([over for over in self.overs if over.bowler == player])

    def start_over(self, player):
        self.overs.append(Over(player, len(self.told), 0, 0))

    def has_whole_overs(self, count):
        return len(self.overs) == count and not self.over_goes_on()

    def over_text(self, i):
        behind = self.overs[i + 1].first if i + 1 < len(self.overs) else len(self.told)
        return " ".join(self.told[self.overs[i].first:behind])

    def change_ends(self):
        self.ends = [self.ends[1], self.ends[0]]

    def deliver(self, ball):
        striker = self.ends[0]
        bowler = self.who_bowls()
        self.sums = self.sums.after(ball)
        self.batters[striker] = self.batters[striker].after(ball)
        self.figures[bowler] = self.figures[bowler].after(ball)
        self.stands[-1] = self.stands[-1].after(ball)
        # Before the over is counted on: a wicket asks who bowls, and of a whole over nobody does.
        self.move_batters(ball)
        self.overs[-1] = self.overs[-1].after(ball)
        self.told.append(written(ball))
        if not self.over_goes_on():
            self.finish_over()

    def move_batters(self, ball):
        if ball.how != NOT_OUT:
            self.take_wicket(ball)
        elif ball.runs % 2 == 1:
            # Runs over the line are 4 or 6, so odd ones were always run.
            self.change_ends()

    def take_wicket(self, ball):
        left = self.ends[1 - ball.out]
        bowler = self.who_bowls() if ball.is_bowlers_wicket() else NOBODY
        self.send_off(self.ends[ball.out], ball.how, bowler, ball.fielder)
        self.ends = [left, left]
        self.ends[ball.end] = NOBODY

    def send_off(self, player, how, bowler, fielder):
        self.batters[player] = self.batters[player].gone(how, bowler, fielder)
        if how != WENT_HURT:
            self.falls.append((self.sums.runs, player, self.sums.balls))

    def finish_over(self):
        bowler = self.overs[-1].bowler
        if self.overs[-1].runs == 0:
            self.figures[bowler] = self.figures[bowler].with_maiden()
        self.change_ends()

    def retire(self, end, hurt):
        self.send_off(self.ends[end], WENT_HURT if hurt == 1 else WENT_OUT, NOBODY, NOBODY)
        self.ends[end] = NOBODY

    def add_penalties(self, runs):
        self.sums = self.sums.with_penalties(runs)

    def snapshot(self):
        """All that may change, as it stands. Of what only grows at its end, the end is enough."""
        tails = (tail_of(self.overs), tail_of(self.told), tail_of(self.falls), tail_of(self.stands))
        return (self.ended, list(self.ends), self.sums, list(self.batters), list(self.figures), tails)

    def restore(self, old):
        self.ended = old[0]
        self.ends = list(old[1])
        self.sums = old[2]
        self.batters = list(old[3])
        self.figures = list(old[4])
        tails = old[5]
        cut_back(self.overs, tails[0])
        cut_back(self.told, tails[1])
        cut_back(self.falls, tails[2])
        cut_back(self.stands, tails[3])


def tail_of(rows):
    return (len(rows), rows[-1] if len(rows) > 0 else None)


def cut_back(rows, tail):
    """Make a list again what it was when this was its tail; meanwhile only its last row was replaced, or rows added."""
    while len(rows) > tail[0]:
        rows.pop()
    if tail[0] > 0:
        rows[-1] = tail[1]
