"""A match: its innings in turn, and when an innings and the match are over."""

from scorebook.innings import GOES_ON, Innings

ALL_OUT = 1
CLOSED = 2
OVERS_BOWLED = 3
TARGET_PASSED = 4
TIME_UP = 5

PENALTY_RUNS = 5


class Game:
    """One match; a limit of 0 is none, and a lead of 0 means that nobody follows on."""

    def __init__(self, innings_each, overs_limit, over_length, bowler_limit, follow_lead):
        self.innings_each = innings_each
        self.overs_limit = overs_limit
        self.over_length = over_length
        self.bowler_limit = bowler_limit
        self.follow_lead = follow_lead
        self.played = []
        self.owed = [0, 0]
        self.followed_on = False
        self.time_is_up = False

    def current(self):
        """The innings that is going on, or None."""
        if len(self.played) > 0 and self.played[-1].ended == GOES_ON:
            return self.played[-1]
        return None

    def runs_of(self, side):
        return sum([innings.runs for innings in self.played if innings.side == side])

    def lead_of(self, side):
        return self.runs_of(side) - self.runs_of(1 - side)

    def all_opened(self):
        return len(self.played) == 2 * self.innings_each

    def is_over(self):
        if self.time_is_up:
            return True
        if self.current() is not None:
            return False
        return self.all_opened() or self.is_won_by_an_innings()

    def is_won_by_an_innings(self):
        # Whoever bats third bats for the second time, followed on or not.
        return len(self.played) == 3 and self.lead_of(self.played[2].side) < 0

    def next_side(self):
        turn = len(self.played) % 2
        return 1 - turn if self.followed_on else turn

    def start_innings(self, striker, other):
        side = self.next_side()
        innings = Innings(side, self.over_length)
        innings.set_openers(striker, other)
        innings.add_penalties(self.owed[side])
        self.owed[side] = 0
        self.played.append(innings)
        self.look_for_end()

    def look_for_end(self):
        innings = self.current()
        if innings is None:
            return
        if self.all_opened() and self.lead_of(innings.side) > 0:
            innings.ended = TARGET_PASSED
        elif innings.has_empty_end() and not innings.somebody_may_come_in():
            innings.ended = ALL_OUT
        elif self.overs_limit != 0 and innings.has_whole_overs(self.overs_limit):
            innings.ended = OVERS_BOWLED

    def may_bowl(self, player):
        """Whether the innings that is going on may have its next over from this player."""
        innings = self.current()
        if innings.over_goes_on() or innings.bowled_last_over(player):
            return False
        return self.bowler_limit == 0 or innings.figures[player].overs < self.bowler_limit

    def add_penalty(self, side):
        batted = [innings for innings in self.played if innings.side == side]
        if len(batted) == 0:
            self.owed[side] += PENALTY_RUNS
        else:
            batted[-1].add_penalties(PENALTY_RUNS)
        self.look_for_end()

    def way_to_close(self):
        """How the innings that is going on ends if its captain closes it now; GOES_ON if that may not be."""
        innings = self.current()
        if innings.has_empty_end() and not innings.somebody_has_not_been_in():
            return ALL_OUT
        return CLOSED if self.overs_limit == 0 else GOES_ON

    def may_follow_on(self):
        if self.innings_each != 2 or len(self.played) != 2 or self.current() is not None:
            return False
        if self.followed_on or self.time_is_up or self.follow_lead == 0:
            return False
        return self.lead_of(0) >= self.follow_lead

    def may_be_drawn(self):
        return len(self.played) > 0 and self.overs_limit == 0 and not self.is_over()

    def end_by_time(self):
        innings = self.current()
        if innings is not None:
            innings.ended = TIME_UP
        self.time_is_up = True
