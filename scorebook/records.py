"""What is kept of a batter, of a bowler, of an over and of a partnership."""

from scorebook.ball import FAIR, NOBODY, NO_BALL, NOT_OUT, WIDE

WENT_HURT = 9
WENT_OUT = 10


class Batter:
    """A player's batting in one innings; the place is 0 until the player comes in."""

    def __init__(self):
        self.place = 0
        self.runs = 0
        self.balls = 0
        self.fours = 0
        self.sixes = 0
        self.how = NOT_OUT
        self.bowler = NOBODY
        self.fielder = NOBODY

    def may_come_in(self):
        return self.place == 0 or self.how == WENT_HURT

    def face(self, ball):
        if ball.kind == WIDE:
            return
        self.balls += 1
        self.runs += ball.bat_runs()
        if ball.is_boundary(4):
            self.fours += 1
        if ball.is_boundary(6):
            self.sixes += 1

    def leave(self, how, bowler, fielder):
        self.how = how
        self.bowler = bowler
        self.fielder = fielder


class Figures:
    """A player's bowling in one innings."""

    def __init__(self):
        self.overs = 0
        self.balls = 0
        self.maidens = 0
        self.runs = 0
        self.wickets = 0
        self.wides = 0
        self.no_balls = 0

    def deliver(self, ball):
        self.runs += ball.bowler_runs()
        if ball.kind == FAIR:
            self.balls += 1
        if ball.kind == WIDE:
            self.wides += 1
        if ball.kind == NO_BALL:
            self.no_balls += 1
        if ball.is_bowlers_wicket():
            self.wickets += 1


class Over:
    """One over: its fair balls, and the runs that its bowler answers for."""

    def __init__(self, bowler):
        self.bowler = bowler
        self.balls = 0
        self.runs = 0

    def deliver(self, ball):
        self.runs += ball.bowler_runs()
        if ball.kind == FAIR:
            self.balls += 1


class Stand:
    """A partnership: who stayed, who came, and what was made meanwhile."""

    def __init__(self, stayed, came):
        self.stayed = stayed
        self.came = came
        self.runs = 0
        self.balls = 0

    def deliver(self, ball):
        self.runs += ball.all_runs()
        if ball.kind == FAIR:
            self.balls += 1
