"""A ball as it is written in an over."""

from scorebook.ball import NO_BALL, NOT_OUT, WIDE

# By what the runs are off: the bat, byes, leg byes.
OFF_SIGNS = ("", "b", "lb")


def written(ball):
    wicket = "" if ball.how == NOT_OUT else "W"
    return written_runs(ball) + wicket


def written_runs(ball):
    if ball.kind == WIDE:
        return str(ball.all_runs()) + "wd"
    if ball.kind == NO_BALL:
        return "nb" if ball.runs == 0 else "nb+" + runs_and_sign(ball)
    if ball.runs > 0:
        return runs_and_sign(ball)
    # A wicket without a run is its W alone.
    return "." if ball.how == NOT_OUT else ""


def runs_and_sign(ball):
    return str(ball.runs) + OFF_SIGNS[ball.off]
