"""What is kept of a batter, a bowler, an over, a partnership, and of an innings' runs.

A record is never changed: what happens makes a new one in its place, so that undo can put the old one back.
"""

from scorebook.ball import BYES, FAIR, LEG_BYES, NOBODY, NO_BALL, NOT_OUT, WIDE

WENT_HURT = 9
WENT_OUT = 10


class Batter:
    """A player's batting in one innings; the place is 0 until the player comes in."""

    def __init__(self, place, runs, balls, fours, sixes, how, bowler, fielder):
        self.place = place
        self.runs = runs
        self.balls = balls
        self.fours = fours
        self.sixes = sixes
        self.how = how
        self.bowler = bowler
        self.fielder = fielder

    def numbers(self):
        return [self.place, self.runs, self.balls, self.fours, self.sixes, self.how, self.bowler, self.fielder]

    def may_come_in(self):
        return self.place == 0 or self.how == WENT_HURT

    def after(self, ball):
        """The striker's record once the ball is bowled."""
        if ball.kind == WIDE:
            return self
        runs = self.runs + ball.bat_runs()
        fours = self.fours + (1 if ball.is_boundary(4) else 0)
        sixes = self.sixes + (1 if ball.is_boundary(6) else 0)
        return Batter(self.place, runs, self.balls + 1, fours, sixes, self.how, self.bowler, self.fielder)

    def gone(self, how, bowler, fielder):
        return Batter(self.place, self.runs, self.balls, self.fours, self.sixes, how, bowler, fielder)

    def come(self, place):
        return Batter(place, self.runs, self.balls, self.fours, self.sixes, NOT_OUT, NOBODY, NOBODY)


def new_batter():
    return Batter(0, 0, 0, 0, 0, NOT_OUT, NOBODY, NOBODY)


class Figures:
    """A player's bowling in one innings."""

    def __init__(self, balls, maidens, runs, wickets, wides, no_balls):
        self.balls = balls
        self.maidens = maidens
        self.runs = runs
        self.wickets = wickets
        self.wides = wides
        self.no_balls = no_balls

    def numbers(self):
        return [self.balls, self.maidens, self.runs, self.wickets, self.wides, self.no_balls]

    def after(self, ball):
        balls = self.balls + ball.tally(FAIR)
        runs = self.runs + ball.bowler_runs()
        wickets = self.wickets + (1 if ball.is_bowlers_wicket() else 0)
        wides = self.wides + ball.tally(WIDE)
        no_balls = self.no_balls + ball.tally(NO_BALL)
        return Figures(balls, self.maidens, runs, wickets, wides, no_balls)

    def with_maiden(self):
        return Figures(self.balls, self.maidens + 1, self.runs, self.wickets, self.wides, self.no_balls)


def new_figures():
    return Figures(0, 0, 0, 0, 0, 0)


class Over:
    """One over: where its first ball stands among the innings' balls, its fair balls, its bowler's runs."""

    def __init__(self, bowler, first, balls, runs):
        self.bowler = bowler
        self.first = first
        self.balls = balls
        self.runs = runs

    def after(self, ball):
        return Over(self.bowler, self.first, self.balls + ball.tally(FAIR), self.runs + ball.bowler_runs())


class Stand:
    """A partnership: who stayed, who came, and what was made meanwhile."""

    def __init__(self, stayed, came, runs, balls):
        self.stayed = stayed
        self.came = came
        self.runs = runs
        self.balls = balls

    def numbers(self):
        return [self.stayed, self.came, self.runs, self.balls]

    def after(self, ball):
        return Stand(self.stayed, self.came, self.runs + ball.all_runs(), self.balls + ball.tally(FAIR))


class Sums:
    """The runs and the fair balls of an innings; wides, no balls and the like are counted in runs."""

    def __init__(self, runs, balls, wides, no_balls, byes, leg_byes, penalties):
        self.runs = runs
        self.balls = balls
        self.wides = wides
        self.no_balls = no_balls
        self.byes = byes
        self.leg_byes = leg_byes
        self.penalties = penalties

    def after(self, ball):
        runs = self.runs + ball.all_runs()
        balls = self.balls + ball.tally(FAIR)
        wides = self.wides + ball.tally(WIDE) * ball.all_runs()
        no_balls = self.no_balls + ball.tally(NO_BALL)
        byes = self.byes + ball.runs_off(BYES)
        leg_byes = self.leg_byes + ball.runs_off(LEG_BYES)
        return Sums(runs, balls, wides, no_balls, byes, leg_byes, self.penalties)

    def with_penalties(self, runs):
        penalties = self.penalties + runs
        return Sums(self.runs + runs, self.balls, self.wides, self.no_balls, self.byes, self.leg_byes, penalties)
