"""A line of calls that is written call by call; each call tells its own answer."""

from scorebook.book import answers

FAIR, WIDE, NO_BALL = 0, 1, 2
BYES, LEG_BYES = 1, 2
NOBODY = 11
TOP = 4294967295


class Line:
    def __init__(self, innings=1, overs=0, balls=6, most=0, follow=0):
        self.calls = []
        first = self.begin(innings, overs, balls, most, follow)
        if first != 0:
            raise ValueError("the first begin was refused")

    def copy(self):
        other = Line()
        other.calls = list(self.calls)
        return other

    def call(self, *numbers):
        self.calls.extend(numbers)
        found = answers(self.calls)
        if found[-2] != 1:
            raise ValueError("an answer that is not one number")
        return found[-1]

    def begin(self, innings, overs, balls, most, follow):
        return self.call(0, innings, overs, balls, most, follow)

    def open(self, striker=0, other=1):
        return self.call(1, striker, other)

    def bowler(self, player):
        return self.call(2, player)

    def ball(self, runs=0, kind=FAIR, off=0, line=0, how=0, out=0, end=0, fielder=NOBODY):
        return self.call(3, kind, off, runs, line, how, out, end, fielder)

    def come_in(self, player):
        return self.call(4, player)

    def retire(self, end, hurt):
        return self.call(5, end, hurt)

    def penalty(self, side):
        return self.call(6, side)

    def declare(self):
        return self.call(7)

    def follow(self):
        return self.call(8)

    def draw(self):
        return self.call(9)

    # What is put together from calls. None of these asks more than the calls themselves answer.

    def must(self, *found):
        """Take answers that have to be 0, so that a test's ground is sure."""
        if any(found):
            raise AssertionError(f"refused on the way: {found}")

    def ready(self, striker=0, other=1, bowler=10):
        self.must(self.open(striker, other), self.bowler(bowler))
        return self

    def singles(self, count):
        """So many runs, by no balls: these end no over and change no ends."""
        for _ in range(count):
            self.must(self.ball(kind=NO_BALL))

    def over(self, balls=6):
        for _ in range(balls):
            self.must(self.ball())

    def lose_wickets(self, count, first_new):
        """So many go out at the striker's end; all but the tenth are followed by the next number."""
        for i in range(count):
            self.must(self.retire(0, 0))
            if first_new + i <= 10:
                self.must(self.come_in(first_new + i))

    def all_out(self):
        """All ten wickets of an innings that players 0 and 1 have opened."""
        self.lose_wickets(10, 2)

    def whole_innings(self, runs=0):
        """An innings of so many runs, ended with the tenth wicket."""
        self.ready()
        self.singles(runs)
        self.all_out()

    def striker(self, a, b):
        """Which of these two, who are both batting, is at the striker's end."""
        return self.at_end(0, a, b)

    def at_end(self, end, a, b):
        probe = self.copy()
        probe.must(probe.retire(end, 1))
        if probe.come_in(a) == 0:
            return a
        probe.must(probe.come_in(b))
        return b

    def goes_on(self):
        """Whether an innings is going on: somebody may go, or may come in."""
        probes = [self.copy(), self.copy()]
        if probes[0].retire(0, 1) == 0:
            return True
        return any(probes[1].come_in(player) == 0 for player in range(11))

    def is_over(self):
        """Whether the match is: only then is a penalty refused."""
        return self.copy().penalty(0) == -2

    def runs_needed(self):
        """How many more runs end the innings that is going on (with somebody bowling)."""
        probe = self.copy()
        for count in range(1, 400):
            probe.must(probe.ball(kind=NO_BALL))
            if not probe.goes_on():
                return count
        raise ValueError("no end in sight")

    def lead(self):
        """After the last innings but one of a match: how many runs its last side is behind."""
        probe = self.copy()
        probe.must(probe.open(), probe.bowler(10))
        return probe.runs_needed() - 1
