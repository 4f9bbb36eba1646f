"""One innings: who bats, who bowls, and the books that are kept of it."""

from scorebook.ball import BYES, FAIR, LEG_BYES, NOBODY, NO_BALL, NOT_OUT, WIDE
from scorebook.records import Batter, Figures, Over, Stand, WENT_HURT, WENT_OUT

PLAYERS = 11
GOES_ON = 0


class Innings:
    """The innings of one side; ends holds who is at the striker's end, then who is at the other."""

    def __init__(self, side, over_length):
        self.side = side
        self.over_length = over_length
        self.batters = [Batter() for player in range(PLAYERS)]
        self.figures = [Figures() for player in range(PLAYERS)]
        self.ends = [NOBODY, NOBODY]
        self.been_in = 0
        self.bowler = NOBODY
        self.overs = []
        self.falls = []
        self.stands = []
        self.runs = 0
        self.wickets = 0
        self.balls = 0
        self.wides = 0
        self.no_balls = 0
        self.byes = 0
        self.leg_byes = 0
        self.penalties = 0
        self.ended = GOES_ON

    def set_openers(self, striker, other):
        self.ends = [striker, other]
        self.give_place(striker)
        self.give_place(other)
        self.stands.append(Stand(striker, other))

    def give_place(self, player):
        self.been_in += 1
        self.batters[player].place = self.been_in

    def has_empty_end(self):
        return NOBODY in self.ends

    def may_come_in(self, player):
        return self.batters[player].may_come_in()

    def somebody_may_come_in(self):
        return any([self.may_come_in(player) for player in range(PLAYERS)])

    def somebody_has_not_been_in(self):
        return self.been_in < PLAYERS

    def come_in(self, player):
        empty = self.ends.index(NOBODY)
        self.stands.append(Stand(self.ends[1 - empty], player))
        self.ends[empty] = player
        # Who went hurt keeps the old place in the order.
        if self.batters[player].place == 0:
            self.give_place(player)
        self.batters[player].how = NOT_OUT

    def over_goes_on(self):
        return self.bowler != NOBODY

    def bowled_last_over(self, player):
        return len(self.overs) > 0 and self.overs[-1].bowler == player

    def start_over(self, player):
        self.bowler = player
        self.figures[player].overs += 1
        self.overs.append(Over(player))

    def has_whole_overs(self, count):
        return len(self.overs) == count and not self.over_goes_on()

    def change_ends(self):
        self.ends = [self.ends[1], self.ends[0]]

    def deliver(self, ball):
        self.count_runs(ball)
        self.batters[self.ends[0]].face(ball)
        self.figures[self.bowler].deliver(ball)
        self.stands[-1].deliver(ball)
        self.overs[-1].deliver(ball)
        self.move_batters(ball)
        if self.overs[-1].balls == self.over_length:
            self.finish_over()

    def count_runs(self, ball):
        self.runs += ball.all_runs()
        if ball.kind == FAIR:
            self.balls += 1
        if ball.kind == WIDE:
            self.wides += ball.all_runs()
        if ball.kind == NO_BALL:
            self.no_balls += ball.extra()
        if ball.off == BYES:
            self.byes += ball.runs
        if ball.off == LEG_BYES:
            self.leg_byes += ball.runs

    def move_batters(self, ball):
        if ball.how != NOT_OUT:
            self.take_wicket(ball)
        elif ball.runs % 2 == 1:
            # Runs over the line are 4 or 6, so odd ones were always run.
            self.change_ends()

    def take_wicket(self, ball):
        gone = self.ends[ball.out]
        left = self.ends[1 - ball.out]
        bowler = self.bowler if ball.is_bowlers_wicket() else NOBODY
        self.batters[gone].leave(ball.how, bowler, ball.fielder)
        self.note_fall(gone)
        self.ends = [left, left]
        self.ends[ball.end] = NOBODY

    def note_fall(self, player):
        self.wickets += 1
        self.falls.append((self.runs, player, self.balls))

    def finish_over(self):
        if self.overs[-1].runs == 0:
            self.figures[self.bowler].maidens += 1
        self.bowler = NOBODY
        self.change_ends()

    def retire(self, end, hurt):
        player = self.ends[end]
        self.ends[end] = NOBODY
        if hurt == 1:
            self.batters[player].leave(WENT_HURT, NOBODY, NOBODY)
        else:
            self.batters[player].leave(WENT_OUT, NOBODY, NOBODY)
            self.note_fall(player)

    def add_penalties(self, runs):
        self.runs += runs
        self.penalties += runs
