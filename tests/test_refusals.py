"""Refusals: -10 before all else, -1 of step, and nothing changed by them (I6)."""

import unittest

from tests.helper import BOB, COIN, LOST, SCORES, START, STATE, ask, begin, last, on, points, step, ticks

SITUATIONS = (
    [begin()],
    [begin(coins=3), COIN, COIN],
    [begin(coins=2), COIN, COIN, COIN, START, points(12)],
    [begin(warnings=1), COIN, START, BOB],
    [begin(warnings=0), COIN, START, BOB],
    [begin(ticks=0, gives=1, levels=[1]), COIN, COIN, START, START, points(5), LOST],
    [begin(balls=1, ticks=0), COIN, START, points(10), LOST, on(1)],
)

WRONG_STEPS = (
    [step(what, 0, tick) for what in (7, 8, 255, 2 ** 32 - 1) for tick in (0, 2 ** 64 - 1)]
    + [step(what, 1) for what in (7, 8, 255, 2 ** 32 - 1)]
    + [step(what, how_much, 3) for what in (0, 1, 2, 3, 6) for how_much in (1, 2, 2 ** 32 - 1)]
)

WRONG_BEGINS = (
    begin(coins=0), begin(coins=10), begin(balls=0), begin(balls=10), begin(warnings=10), begin(players=0),
    begin(players=5), begin(gives=2), begin(ticks=100001), begin(levels=[0]), begin(levels=[2, 1]),
    begin(levels=[0xA]), begin(levels=[1, 2, 3, 4, 5]), begin(levels=[2 ** 64 - 1] * 10),
)


class NothingBegunTest(unittest.TestCase):
    def test_any_call_but_begin(self):
        for call in [STATE, SCORES] + [step(what) for what in range(7)] + [points(5), ticks(5)]:
            with self.subTest(call=call):
                self.assertEqual(last(call), [-10])

    def test_it_comes_before_all_else(self):
        for call in WRONG_STEPS:
            with self.subTest(call=call):
                self.assertEqual(last(call), [-10])

    def test_it_ends_with_begin(self):
        self.assertEqual(ask(STATE, COIN, begin(), STATE, COIN), [[-10], [-10], [0], [0] * 11, [0, 168, 256]])

    def test_a_refused_begin_begins_nothing(self):
        for wrong in WRONG_BEGINS:
            with self.subTest(wrong=wrong):
                self.assertEqual(ask(wrong, STATE, SCORES, COIN, step(9)), [[-1]] + [[-10]] * 4)


class WrongCallTest(unittest.TestCase):
    def test_wrong_calls_change_nothing(self):
        for game in SITUATIONS:
            before = ask(*game, STATE, SCORES)[-2:]
            for wrong in list(WRONG_STEPS) + list(WRONG_BEGINS):
                with self.subTest(game=game, wrong=wrong):
                    self.assertEqual(ask(*game, wrong, STATE, SCORES)[-3:], [[-1]] + before)

    def test_the_setup_stays_behind_a_refused_begin(self):
        game = [begin(coins=2, balls=1, warnings=1, players=2, gives=1, ticks=30, levels=[4])]
        play = [COIN, COIN, START, BOB, points(4), LOST, BOB, LOST, on(), LOST, LOST, on(1)]
        for wrong in WRONG_BEGINS:
            with self.subTest(wrong=wrong):
                self.assertEqual(ask(*game, wrong, *play)[2:], ask(*game, *play)[1:])

    def test_what_6_and_0_with_how_much_0_are_taken(self):
        for what in range(7):
            self.assertEqual(last(begin(), step(what, 0, 2 ** 64 - 1))[0], 0)

    def test_how_much_is_taken_of_points_and_ticks(self):
        for what in (4, 5):
            for how_much in (0, 1, 2 ** 32 - 1):
                self.assertEqual(last(begin(), step(what, how_much)), [0])


if __name__ == "__main__":
    unittest.main()
