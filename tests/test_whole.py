"""What holds between the books, whatever has happened."""

import random
import re
import unittest

from line import Line, random_line
from scorebook.actions import Book
from scorebook.book import answer_one


class Live(Line):
    """A line that is gone through once, to be read many times."""

    def __init__(self, calls):
        self.book = Book()
        for call in calls:
            answer_one(self.book, call[0], call[1:])

    def ask(self, *numbers):
        return answer_one(self.book, numbers[0], list(numbers[1:]))


def runs_written(text):
    """The runs of a ball, read off how it is written."""
    if text.startswith("nb"):
        return 1 + sum(int(digits) for digits in re.findall(r"\d+", text))
    return sum(int(digits) for digits in re.findall(r"\d+", text))


class Between(unittest.TestCase):
    def setUp(self):
        rng = random.Random(12)
        lines = [Live([call for call, _ in random_line(rng, 220, undo_share=0.05)]) for _ in range(40)]
        self.innings = []
        for line in lines:
            opened = line.now()[1] if line.now()[0] == 0 else 0
            self.innings.extend((line, k) for k in range(opened))
        self.assertGreater(len(self.innings), 60)

    def all_of(self, read, k):
        found = []
        while read(k, len(found))[0] >= 0:
            found.append(read(k, len(found)))
        return found

    def test_runs(self):
        for line, k in self.innings:
            total = line.total(k)
            extras = sum(total[5:10])
            batters = [line.batter(k, player) for player in range(11)]
            bowlers = [line.bowling(k, player) for player in range(11)]
            self.assertEqual(total[2], sum(one[2] for one in batters) + extras)
            self.assertEqual(total[2], sum(one[3] for one in bowlers) + total[7] + total[8] + total[9])
            self.assertEqual(total[2] - total[9], sum(one[3] for one in self.all_of(line.stand, k)))

    def test_balls(self):
        for line, k in self.innings:
            balls = line.total(k)[4]
            bowlers = [line.bowling(k, player) for player in range(11)]
            self.assertEqual(balls, sum(one[1] for one in bowlers))
            self.assertEqual(balls, sum(one[4] for one in self.all_of(line.stand, k)))
            no_balls = sum(one[6] for one in bowlers)
            self.assertEqual(no_balls, line.total(k)[6])
            self.assertEqual(balls + no_balls, sum(line.batter(k, player)[3] for player in range(11)))

    def test_wickets(self):
        for line, k in self.innings:
            batters = [line.batter(k, player) for player in range(11)]
            falls = self.all_of(line.fall, k)
            out = [player for player in range(11) if batters[player][6] not in (0, 9)]
            self.assertEqual(line.total(k)[3], len(falls))
            self.assertEqual(sorted(fall[2] for fall in falls), out)
            self.assertEqual(sorted(falls, key=lambda fall: (fall[1], fall[3])), falls)
            for player in range(11):
                taken = [one for one in batters if one[6] in (1, 2, 3, 4, 5) and one[7] == player]
                self.assertEqual(line.bowling(k, player)[4], len(taken))

    def test_order(self):
        for line, k in self.innings:
            places = sorted(line.batter(k, player)[1] for player in range(11))
            been_in = [place for place in places if place > 0]
            self.assertEqual(been_in, list(range(1, len(been_in) + 1)))
            came = {stand[2] for stand in self.all_of(line.stand, k)} | {line.stand(k, 0)[1]}
            self.assertEqual(len(came), len(been_in))

    def test_overs(self):
        for line, k in self.innings:
            texts = []
            while line.over_bytes(k, len(texts)) != [-1]:
                texts.append(line.over_text(k, len(texts)))
            balls = [ball for text in texts for ball in text.split(" ") if ball]
            total = line.total(k)
            self.assertEqual(sum(runs_written(ball) for ball in balls), total[2] - total[9])
            self.assertEqual(len([ball for ball in balls if "wd" not in ball and "nb" not in ball]), total[4])
            gone_out = len([1 for player in range(11) if line.batter(k, player)[6] == 10])
            self.assertEqual("".join(balls).count("W"), total[3] - gone_out)
            self.assertEqual("".join(balls).count("nb"), total[6])

    def test_now_tells_the_last_innings(self):
        for line, k in self.innings:
            now = line.now()
            total = line.total(now[1] - 1)
            self.assertEqual(line.total(now[1]), [-1])
            self.assertEqual((now[2], now[6], now[7], now[8]), (total[1], total[4], total[2], total[3]))
            for player in now[3:5]:
                if player != 11:
                    self.assertEqual(line.batter(now[1] - 1, player)[6], 0)
