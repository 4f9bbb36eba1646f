"""A ball as it is told, in eight numbers, and what the table says of them."""

FAIR = 0
WIDE = 1
NO_BALL = 2

OFF_BAT = 0
BYES = 1
LEG_BYES = 2

NOT_OUT = 0
CAUGHT = 2
STUMPED = 4
HIT_WICKET = 5
RUN_OUT = 6
IN_THE_WAY = 7

NOBODY = 11

# For each kind of ball, how a batter may be out of it.
WAYS_OUT = (
    (0, 1, 2, 3, 4, 5, 6, 7, 8),
    (0, 4, 5, 6, 7),
    (0, 6, 7, 8),
)


class Ball:
    """The eight numbers of one ball, by their names."""

    def __init__(self, numbers):
        self.kind = numbers[0]
        self.off = numbers[1]
        self.runs = numbers[2]
        self.line = numbers[3]
        self.how = numbers[4]
        self.out = numbers[5]
        self.end = numbers[6]
        self.fielder = numbers[7]

    def extra(self):
        """The one run that a wide or a no ball counts besides its runs."""
        return 0 if self.kind == FAIR else 1

    def tally(self, kind):
        """What the ball adds to a count of balls of this kind."""
        return 1 if self.kind == kind else 0

    def all_runs(self):
        return self.runs + self.extra()

    def runs_off(self, off):
        return self.runs if self.off == off else 0

    def is_off_bat(self):
        # A wide's off is 0 too, but no bat has met it.
        return self.kind != WIDE and self.off == OFF_BAT

    def bat_runs(self):
        return self.runs if self.is_off_bat() else 0

    def bowler_runs(self):
        """The runs that the bowler answers for: all but byes and leg byes."""
        return self.extra() + self.runs_off(OFF_BAT)

    def is_boundary(self, runs):
        return self.line == 1 and self.is_off_bat() and self.runs == runs

    def is_bowlers_wicket(self):
        return self.how != NOT_OUT and self.how <= HIT_WICKET


def is_ball(ball):
    """Whether the table allows these eight numbers together."""
    return is_within_bounds(ball) and runs_fit(ball) and wicket_fits(ball) and fielder_fits(ball)


def is_within_bounds(ball):
    choices = ball.line <= 1 and ball.out <= 1 and ball.end <= 1
    return choices and ball.kind <= NO_BALL and ball.off <= LEG_BYES and ball.runs <= 9


def runs_fit(ball):
    if ball.off != OFF_BAT and (ball.kind == WIDE or ball.runs == 0):
        return False
    if ball.line == 1:
        return ball.runs == 4 or (ball.runs == 6 and ball.is_off_bat())
    return True


def wicket_fits(ball):
    if ball.how not in WAYS_OUT[ball.kind]:
        return False
    if ball.how != NOT_OUT and ball.line == 1:
        return False
    if is_out_while_running(ball):
        return True
    if ball.how != NOT_OUT and ball.runs != 0:
        return False
    return ball.out == 0 and ball.end == 0


def is_out_while_running(ball):
    """Either batter may be out so, at either end, and runs may be made."""
    return ball.how == RUN_OUT or ball.how == IN_THE_WAY


def fielder_fits(ball):
    if ball.how == CAUGHT or ball.how == STUMPED:
        return ball.fielder < NOBODY
    if ball.how == RUN_OUT:
        return ball.fielder <= NOBODY
    return ball.fielder == NOBODY
