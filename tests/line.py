"""A line of calls that is written call by call; each call tells its own answer."""

from scorebook.actions import Book
from scorebook.book import answer_one, answers, SIZES

FAIR, WIDE, NO_BALL = 0, 1, 2
BYES, LEG_BYES = 1, 2
NOBODY = 11
TOP = 4294967295


def split(found):
    """The answers call by call, without their lengths."""
    parts = []
    place = 0
    while place < len(found):
        behind = place + 1 + found[place]
        if behind > len(found):
            raise ValueError("an answer that is shorter than it says")
        parts.append(found[place + 1:behind])
        place = behind
    return parts


class Line:
    def __init__(self, innings=1, overs=0, balls=6, most=0, follow=0):
        self.calls = []
        first = self.begin(innings, overs, balls, most, follow)
        if first != 0:
            raise ValueError("the first begin was refused")

    def copy(self):
        other = Line()
        other.calls = list(self.calls)
        return other

    def call(self, *numbers):
        """Add a call that changes the book to the line; its answer is one number."""
        self.calls.extend(numbers)
        found = split(answers(self.calls))[-1]
        if len(found) != 1:
            raise ValueError("an answer that is not one number")
        return found[0]

    def ask(self, *numbers):
        """What a call that reads the book would answer here; the line stays as it is."""
        return split(answers([*self.calls, *numbers]))[-1]

    def begin(self, innings, overs, balls, most, follow):
        return self.call(0, innings, overs, balls, most, follow)

    def open(self, striker=0, other=1):
        return self.call(1, striker, other)

    def bowler(self, player):
        return self.call(2, player)

    def ball(self, runs=0, kind=FAIR, off=0, line=0, how=0, out=0, end=0, fielder=NOBODY):
        return self.call(3, kind, off, runs, line, how, out, end, fielder)

    def come_in(self, player):
        return self.call(4, player)

    def retire(self, end, hurt):
        return self.call(5, end, hurt)

    def penalty(self, side):
        return self.call(6, side)

    def declare(self):
        return self.call(7)

    def follow(self):
        return self.call(8)

    def draw(self):
        return self.call(9)

    def undo(self):
        return self.call(10)

    def now(self):
        return self.ask(11)

    def total(self, k):
        return self.ask(12, k)

    def batter(self, k, player):
        return self.ask(13, k, player)

    def bowling(self, k, player):
        return self.ask(14, k, player)

    def fall(self, k, i):
        return self.ask(15, k, i)

    def stand(self, k, i):
        return self.ask(16, k, i)

    def over_bytes(self, k, i, most=TOP):
        return self.ask(17, k, i, most)

    def over_text(self, k, i):
        found = self.over_bytes(k, i)
        if found[0] != len(found) - 1:
            raise AssertionError(f"not as many bytes as are told: {found}")
        return bytes(found[1:]).decode("ascii")

    def result(self):
        return self.ask(18)

    def books(self):
        """All that can be read of the book, by one line of calls."""
        reads = [[11], [18]]
        for k in range(5):
            reads.append([12, k])
            reads.extend([number, k, player] for number in (13, 14) for player in range(12))
            reads.extend([number, k, i] for number in (15, 16) for i in range(25))
            reads.extend([17, k, i, TOP] for i in range(25))
        return split(answers(self.calls + [number for read in reads for number in read]))[-len(reads):]

    # What is put together from calls. None of these asks more than the calls themselves answer.

    def must(self, *found):
        """Take answers that have to be 0, so that a test's ground is sure."""
        if any(found):
            raise AssertionError(f"refused on the way: {found}")

    def ready(self, striker=0, other=1, bowler=10):
        self.must(self.open(striker, other), self.bowler(bowler))
        return self

    def singles(self, count):
        """So many runs, by no balls: these end no over and change no ends."""
        for _ in range(count):
            self.must(self.ball(kind=NO_BALL))

    def over(self, balls=6):
        for _ in range(balls):
            self.must(self.ball())

    def lose_wickets(self, count, first_new):
        """So many go out at the striker's end; all but the tenth are followed by the next number."""
        for i in range(count):
            self.must(self.retire(0, 0))
            if first_new + i <= 10:
                self.must(self.come_in(first_new + i))

    def all_out(self):
        """All ten wickets of an innings that players 0 and 1 have opened."""
        self.lose_wickets(10, 2)

    def whole_innings(self, runs=0):
        """An innings of so many runs, ended with the tenth wicket."""
        self.ready()
        self.singles(runs)
        self.all_out()

    def striker(self, a, b):
        """Which of these two, who are both batting, is at the striker's end."""
        return self.at_end(0, a, b)

    def at_end(self, end, a, b):
        probe = self.copy()
        probe.must(probe.retire(end, 1))
        found = a
        if probe.come_in(a) != 0:
            probe.must(probe.come_in(b))
            found = b
        return self.agreed(found, self.now()[3 + end])

    def agreed(self, probed, read):
        """What was found out by later refusals has to be what the book says."""
        if probed != read:
            raise AssertionError(f"{probed} by the calls that follow, {read} by the book")
        return probed

    def goes_on(self):
        """Whether an innings is going on: somebody may go, or may come in."""
        probes = [self.copy(), self.copy()]
        probed = probes[0].retire(0, 1) == 0 or any(probes[1].come_in(player) == 0 for player in range(11))
        opened = self.now()[1:2]
        return self.agreed(probed, opened != [] and self.total(opened[0] - 1)[10] == 0)

    def is_over(self):
        """Whether the match is: only then is a penalty refused."""
        return self.agreed(self.copy().penalty(0) == -2, self.result()[1] != 0)

    def runs_needed(self):
        """How many more runs end the innings that is going on (with somebody bowling)."""
        probe = self.copy()
        for count in range(1, 400):
            probe.must(probe.ball(kind=NO_BALL))
            if not probe.goes_on():
                return count
        raise ValueError("no end in sight")

    def lead(self):
        """After the last innings but one of a match: how many runs its last side is behind."""
        probe = self.copy()
        probe.must(probe.open(), probe.bowler(10))
        return probe.runs_needed() - 1


# Lines that nobody thought of.

def random_ball(rng):
    """A ball that mostly is one by the table."""
    kind = rng.choice((0, 0, 0, 0, 1, 2))
    how = rng.choice((0, 0, 0, 0, 0, 1, 2, 3, 4, 5, 6, 7, 8))
    off = rng.choice((0, 0, 0, 1, 2)) if kind != WIDE else 0
    runs = 0 if how in (1, 2, 3, 4, 5, 8) else rng.choice((0, 0, 1, 1, 2, 3, 4, 6, 9))
    line = 1 if how == 0 and runs in (4, 6) and rng.random() < 0.5 else 0
    out, end = (rng.randrange(2), rng.randrange(2)) if how in (6, 7) else (0, 0)
    fielder = rng.randrange(11) if how in (2, 4) else rng.choice((3, 11)) if how == 6 else 11
    return [3, kind, off, runs, line, how, out, end, fielder]


def random_call(rng, now, goes_on):
    """A call that fits what now answered, or, now and then, any call that changes the book."""
    if rng.random() < 0.15:
        number = rng.choice((1, 2, 3, 4, 5, 6, 7, 8, 9))
        if number == 3:
            return random_ball(rng)
        top = 12 if number in (1, 2, 4) else 3
        return [number, *(rng.randrange(top) for _ in range(SIZES[number]))]
    if not goes_on:
        return rng.choice(([8], [6, 1], [1, 3, 4], [1, 0, 1], [1, 9, 2]))
    if NOBODY in now[3:5]:
        return [4, rng.randrange(11)]
    if now[5] == NOBODY:
        return [2, rng.randrange(11)]
    return random_ball(rng)


def random_line(rng, length, undo_share=0.0):
    """A line of calls that change the book, with what each answered: pairs of a call and its answer."""
    book = Book()
    first = [0, rng.choice((1, 2)), rng.choice((0, 0, 1, 3)), rng.choice((4, 6)), rng.choice((0, 0, 1, 2)),
             rng.choice((0, 1, 5))]
    found = [(first, answer_one(book, 0, first[1:])[0])]
    for _ in range(length):
        now = answer_one(book, 11, [])
        goes_on = now[0] == 0 and answer_one(book, 12, [now[1] - 1])[10] == 0
        call = [10] if rng.random() < undo_share else random_call(rng, now, goes_on)
        found.append((call, answer_one(book, call[0], call[1:])[0]))
    return found


def line_of(calls):
    """A line that goes on behind these calls."""
    line = Line()
    line.calls = [number for call in calls for number in call]
    return line
