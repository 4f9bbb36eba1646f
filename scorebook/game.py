"""A match: its innings in turn, and when an innings and the match are over."""

from scorebook.innings import GOES_ON, Innings

ALL_OUT = 1
CLOSED = 2
OVERS_BOWLED = 3
TARGET_PASSED = 4
TIME_UP = 5

# Results; of the three ways to win, that of side 0, and side 1's is one more.
UNDECIDED = 0
WON_BY_RUNS = 1
WON_BY_WICKETS = 3
WON_BY_AN_INNINGS = 5
AS_MANY = 7
NO_TIME_LEFT = 8

PENALTY_RUNS = 5
WICKETS = 10


class Game:
    """One match; a limit of 0 is none, and a lead of 0 means that nobody follows on."""

    def __init__(self, innings_each, overs_limit, over_length, bowler_limit, follow_lead):
        self.innings_each = innings_each
        self.overs_limit = overs_limit
        self.over_length = over_length
        self.bowler_limit = bowler_limit
        self.follow_lead = follow_lead
        self.played = []
        self.owed = [0, 0]
        self.followed_on = False
        self.time_is_up = False

    def current(self):
        """The innings that is going on, or None."""
        if len(self.played) > 0 and self.played[-1].ended == GOES_ON:
            return self.played[-1]
        return None

    def innings_of(self, side):
        return [innings for innings in self.played if innings.side == side]

    def runs_of(self, side):
        return sum([innings.sums.runs for innings in self.innings_of(side)])

    def lead_of(self, side):
        return self.runs_of(side) - self.runs_of(1 - side)

    def all_opened(self):
        return len(self.played) == 2 * self.innings_each

    def is_over(self):
        if self.time_is_up:
            return True
        if self.current() is not None:
            return False
        return self.all_opened() or self.is_won_by_an_innings()

    def is_won_by_an_innings(self):
        # Whoever bats third bats for the second time, followed on or not.
        return len(self.played) == 3 and self.lead_of(self.played[2].side) < 0

    def outcome(self):
        """The result, and by how much."""
        if not self.is_over():
            return [UNDECIDED, 0]
        if self.time_is_up:
            return [NO_TIME_LEFT, 0]
        last = self.played[-1]
        lead = self.lead_of(last.side)
        if lead == 0:
            return [AS_MANY, 0]
        if lead > 0:
            return [WON_BY_WICKETS + last.side, WICKETS - last.wickets_down()]
        way = WON_BY_RUNS if self.all_opened() else WON_BY_AN_INNINGS
        return [way + 1 - last.side, -lead]

    def next_side(self):
        turn = len(self.played) % 2
        return 1 - turn if self.followed_on else turn

    def start_innings(self, striker, other):
        side = self.next_side()
        innings = Innings(side, self.over_length, striker, other)
        innings.add_penalties(self.owed[side])
        self.owed[side] = 0
        self.played.append(innings)
        self.look_for_end()

    def look_for_end(self):
        innings = self.current()
        if innings is None:
            return
        if self.all_opened() and self.lead_of(innings.side) > 0:
            innings.ended = TARGET_PASSED
        elif innings.has_empty_end() and not innings.somebody_may_come_in():
            innings.ended = ALL_OUT
        elif self.overs_limit != 0 and innings.has_whole_overs(self.overs_limit):
            innings.ended = OVERS_BOWLED

    def may_bowl(self, player):
        """Whether the innings that is going on may have its next over from this player."""
        innings = self.current()
        if innings.over_goes_on() or innings.bowled_last_over(player):
            return False
        return self.bowler_limit == 0 or innings.overs_of(player) < self.bowler_limit

    def deliver(self, ball):
        self.current().deliver(ball)
        self.look_for_end()

    def retire(self, end, hurt):
        self.current().retire(end, hurt)
        self.look_for_end()

    def add_penalty(self, side):
        batted = self.innings_of(side)
        if len(batted) == 0:
            self.owed[side] += PENALTY_RUNS
        else:
            batted[-1].add_penalties(PENALTY_RUNS)
        self.look_for_end()

    def way_to_close(self):
        """How the innings that is going on ends if its captain closes it now; GOES_ON if that may not be."""
        innings = self.current()
        if innings.has_empty_end() and not innings.somebody_has_not_been_in():
            return ALL_OUT
        return CLOSED if self.overs_limit == 0 else GOES_ON

    def close(self):
        innings = self.current()
        innings.ended = self.way_to_close()

    def may_follow_on(self):
        if self.innings_each != 2 or len(self.played) != 2 or self.current() is not None:
            return False
        if self.followed_on or self.time_is_up or self.follow_lead == 0:
            return False
        return self.lead_of(0) >= self.follow_lead

    def follow_on(self):
        self.followed_on = True

    def may_be_drawn(self):
        return len(self.played) > 0 and self.overs_limit == 0 and not self.is_over()

    def end_by_time(self):
        innings = self.current()
        if innings is not None:
            innings.ended = TIME_UP
        self.time_is_up = True

    def snapshot(self):
        """All that the next thing may change; a penalty may reach back to the last innings of either side."""
        latest = self.innings_of(0)[-1:] + self.innings_of(1)[-1:]
        saved = [(innings, innings.snapshot()) for innings in latest]
        return (len(self.played), list(self.owed), self.followed_on, self.time_is_up, saved)

    def restore(self, old):
        self.played = self.played[:old[0]]
        self.owed = list(old[1])
        self.followed_on = old[2]
        self.time_is_up = old[3]
        for pair in old[4]:
            pair[0].restore(pair[1])
