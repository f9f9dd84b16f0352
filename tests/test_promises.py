"""I1 to I6 over long walks of calls, held against a ledger of what was told."""

import unittest

from tests.helper import SCORES, STATE, ask, begin, score, step


class Dice:
    """Numbers that look thrown but are the same each time."""

    def __init__(self, seed):
        self.seed = seed

    def throw(self, below):
        self.seed = (self.seed * 6364136223846793005 + 1442695040888963407) % 2 ** 64
        return (self.seed >> 33) % below


def thrown_setup(dice):
    rows = ([], [3], [0x40, 0x999999999999], [1, 2, 3, 4], [0x10, 0x500, 0x2000000000, 0x3000000000])
    return (1 + dice.throw(3), 1 + dice.throw(3), dice.throw(3), 1 + dice.throw(4), dice.throw(2), dice.throw(4) * 5,
            rows[dice.throw(len(rows))])


def thrown_step(dice):
    what = (0, 0, 1, 1, 2, 2, 2, 3, 4, 4, 5, 6, 6, 6, 7)[dice.throw(15)]
    how_much = 0
    if what == 4:
        how_much = (0, 1, 7, 10, 55, 100, 2 ** 32 - 1)[dice.throw(7)]
    elif what == 5:
        how_much = dice.throw(9)
    elif dice.throw(20) == 0:
        how_much = 1
    return step(what, how_much, dice.throw(100))


class Ledger:
    """What the promises say, reckoned from the setup, the calls, and what was told."""

    def __init__(self, test, setup):
        self.test = test
        self.balls, self.warnings, self.gives = setup[1], setup[2], setup[4]
        self.credits = 0
        self.numbers = [0] * 4
        self.turns = [0] * 4
        self.given = [0] * 4
        self.full = False
        self.back = self.warned = self.tilts = 0
        self.games = 0

    def hear(self, call, heard, before, after):
        if heard[:2] == [169, 172]:
            self.numbers, self.turns, self.given, self.full = [0] * 4, [0] * 4, [0] * 4, False
        if call[1] == 4 and before["ball"] > 0 and before["tilted"] == 0:
            self.numbers[before["turn"]] += call[2]
        for number in heard:
            self.count(number, before, after)
        if 258 in heard:
            self.end(after)

    def count(self, number, before, after):
        if number == 256:
            self.credits = min(self.credits + 1, 99)
        elif number == 169:
            self.credits -= 1
        elif number == 259:
            self.given[before["turn"]] += 1
            self.full = self.full or after["more"] == 9
        elif number == 172:
            self.turns[after["turn"]] += 1
            self.back = self.warned = self.tilts = 0
        elif number == 174:
            self.back += 1
        elif number == 170:
            self.warned += 1
        elif number == 171:
            self.tilts += 1
            self.test.assertEqual(self.warned, self.warnings, "I5: a tilt behind as many warnings")

    def end(self, after):
        self.games += 1
        if not self.full:
            for player in range(after["players"]):
                self.test.assertEqual(self.turns[player], self.balls + self.given[player], "I2")

    def check(self, after, scores):
        self.test.assertEqual(after["credits"], self.credits, "I1")
        self.test.assertEqual(scores, [score(number % 10 ** 12) for number in self.numbers], "I3")
        self.test.assertLessEqual(self.back, 1, "I4")
        self.test.assertLessEqual(self.tilts, 1, "I5")
        self.test.assertLessEqual(self.warned, self.warnings, "I5")


class WalkTest(unittest.TestCase):
    def walk(self, seed, length):
        dice = Dice(seed)
        setup = thrown_setup(dice)
        steps = [thrown_step(dice) for at in range(length)]
        calls = [begin(*setup), STATE, SCORES]
        for call in steps:
            calls += [call, STATE, SCORES]
        given = ask(*calls)
        names = ("credits", "coins", "ball", "players", "turn", "warned", "tilted", "more", "ticks", "over")
        ledger = Ledger(self, setup)
        for at, call in enumerate(steps):
            old = given[3 * at + 1:3 * at + 3]
            answer, new, scores = given[3 * at + 3:3 * at + 6]
            if call[1] > 6 or (call[2] > 0 and call[1] not in (4, 5)):
                self.assertEqual(answer, [-1])
                self.assertEqual([new, scores], old, "I6")
                continue
            self.assertEqual(answer[0], 0)
            after = dict(zip(names, new[1:]))
            ledger.hear(call, answer[1:], dict(zip(names, old[0][1:])), after)
            ledger.check(after, scores[1:])
        return ledger.games

    def test_walks(self):
        games = 0
        for seed in range(60):
            with self.subTest(seed=seed):
                games += self.walk(seed, 600)
        # Walks that end no game would hold I2 against nothing.
        self.assertGreater(games, 100)


if __name__ == "__main__":
    unittest.main()
