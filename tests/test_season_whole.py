"""Whole seasons, many deeds in a row, held behind each of them against a plain model: points 8 to 23."""

import unittest

from oracles import Dice
from seasons import HUGE, Pair

# Many turns of each kind, so that rounds have referees, are drawn up, are changed and are closed.
TURNS = (
    ["enrol"] * 4 + ["draw_up"] * 3 + ["away"] * 7 + ["close"] * 2 + ["take_back"] * 4 + ["wrong"] * 2
)


class Player:
    def __init__(self, case, seed, rounds, rest, clubs=9, grades=4, people=6, matches=5, small=True):
        self.dice = Dice(seed)
        self.pair = Pair(case, rounds, rest, small)
        self.rounds = rounds
        self.clubs = clubs
        self.grades = grades
        self.people = people
        self.matches = matches

    def number(self):
        return 1 + self.dice.throw(self.people)

    def match(self):
        home = 1 + self.dice.throw(self.clubs)
        guest = 1 + (home + self.dice.throw(self.clubs - 1)) % self.clubs
        return (home, guest, 1 + self.dice.throw(self.grades))

    def turn(self):
        getattr(self, TURNS[self.dice.throw(len(TURNS))])()

    def enrol(self):
        self.pair.call("enrol", self.number(), 1 + self.dice.throw(self.grades), 1 + self.dice.throw(self.clubs))

    def draw_up(self):
        count = self.matches - self.dice.throw(3) if self.dice.throw(8) else 0
        self.pair.call("draw_up", [self.match() for _ in range(count)])

    def away(self):
        at = self.pair.season.at_hand() if self.dice.throw(4) else 1 + self.dice.throw(self.rounds + 1)
        drawn = self.pair.model.round_of(at) if at <= self.rounds else None
        sent = [number for number in drawn["goes"] if number is not None] if drawn else []
        # Mostly one who has a match, so that referees fall out.
        if sent and self.dice.throw(3):
            self.pair.call("away", at, sent[self.dice.throw(len(sent))])
        else:
            self.pair.call("away", at, self.number())

    def close(self):
        if self.dice.throw(2):
            self.pair.call("close")

    def take_back(self):
        for _ in range(1 + self.dice.throw(2)):
            self.pair.call("take_back")

    def wrong(self):
        wrong = (0, -1, HUGE, -HUGE)[self.dice.throw(4)]
        calls = (
            ("enrol", wrong, 1, 1), ("enrol", self.number(), wrong, 1), ("enrol", self.number(), 1, wrong),
            ("away", wrong, self.number()), ("away", 1 + self.dice.throw(self.rounds + 1), wrong),
            ("draw_up", [self.match(), (wrong, 1, 1)]), ("draw_up", [(1, 2, wrong), (3, 3, 1)]),
            ("draw_up", [self.match(), (4, 4, 1)]), ("draw_up", [self.match()] * 21),
        )
        self.pair.call(*calls[self.dice.throw(len(calls))])


class WholeSeasonTest(unittest.TestCase):
    def test_small_seasons(self):
        chains = []
        over = 0
        for seed in range(32):
            rounds = (3, 5, 1, 8)[seed % 4]
            player = Player(self, seed, rounds, (0, 1, 2, 10)[seed // 4 % 4], clubs=14, people=8, matches=4)
            for _ in range(10):
                player.enrol()
            for _ in range(110):
                player.turn()
            chains += player.pair.chains
            over += player.pair.season.at_hand() - 1
        # Else the seasons above would show little.
        to_a_referee = [len(steps) for steps in chains if steps[-1][1] is not None]
        to_a_match = [len(steps) for steps in chains if steps[-1][1] is None]
        self.assertGreater(over, 40)
        self.assertGreater(to_a_referee.count(1), 20)
        self.assertGreater(to_a_referee.count(2), 5)
        self.assertGreater(to_a_match.count(1), 20)
        self.assertGreater(to_a_match.count(2), 10)
        self.assertGreater(to_a_match.count(3), 0)

    def test_many_referees_fall_out_of_each_round(self):
        for seed in range(12):
            player = Player(self, 100 + seed, 4, seed % 3, clubs=12)
            for number in player.dice.mixed(range(1, 7)):
                player.pair.call("enrol", number, 1 + player.dice.throw(4), 1 + player.dice.throw(12))
            for at in range(1, 5):
                player.pair.call("draw_up", [player.match() for _ in range(5)])
                for number in player.dice.mixed(range(1, 7))[:4]:
                    player.pair.call("away", at, number)
                player.pair.call("take_back")
                player.pair.call("take_back")
                player.pair.call("away", at, player.number())
                player.pair.call("close")
            player.pair.call("close")

    def test_great_seasons(self):
        for seed, rest in ((1, 0), (2, 1), (3, 2), (4, 10)):
            player = Player(self, seed, 3, rest, clubs=99, grades=9, people=30, matches=20, small=False)
            for number in player.dice.mixed(range(1, 31)):
                player.pair.call("enrol", number, 1 + player.dice.throw(9), 1 + player.dice.throw(99))
            for at in range(1, 4):
                player.pair.call("draw_up", [player.match() for _ in range(20)])
                for number in player.dice.mixed(range(1, 31))[:12]:
                    player.pair.call("away", at, number)
                for _ in range(5):
                    player.pair.call("take_back")
                player.pair.call("close")

    def test_all_taken_back_from_the_end_to_the_start_of_a_round(self):
        for seed in range(10):
            player = Player(self, 200 + seed, 3, 1)
            for at in (1, 2):
                for number in range(1, 5):
                    player.pair.call("enrol", 3 * at + number, 1 + player.dice.throw(4), 1 + player.dice.throw(9))
                player.pair.call("away", 3, 3 * at + 1)
                player.pair.call("draw_up", [player.match() for _ in range(4)])
                for number in (2, 3, 4):
                    player.pair.call("away", at, 3 * at + number)
                deeds = len(player.pair.season.deeds())
                for _ in range(deeds - 5 if at == 1 else deeds + 1):
                    player.pair.call("take_back")
                player.pair.call("draw_up", [player.match() for _ in range(3)])
                player.pair.call("close")


if __name__ == "__main__":
    unittest.main()
