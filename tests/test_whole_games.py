"""Whole games from coin to match, each answer written out."""

import unittest

from tests.helper import BOB, COIN, LOST, SCORES, START, STATE, ask, begin, on, points, ticks


class WholeGameTest(unittest.TestCase):
    def play(self, rows):
        given = ask(*[call for call, answer in rows])
        for at, (call, answer) in enumerate(rows):
            self.assertEqual(given[at], answer, f"call {at}, {call!r}")

    def test_one_player_with_a_level_that_gives_a_credit(self):
        self.play([
            (begin(2, 2, 1, 1, 0, 50, [0x1000]), [0]),
            (START, [0]),
            (COIN, [0, 168]),
            (COIN, [0, 168, 256]),
            (START, [0, 169, 172, 257]),
            (points(500), [0]),
            (ticks(49), [0]),
            (LOST, [0, 174, 257]),
            (BOB, [0, 170]),
            (points(700), [0, 256]),
            (START, [0]),
            (STATE, [0, 1, 0, 1, 1, 0, 1, 0, 0, 0, 0]),
            (LOST, [0, 173]),
            (points(10), [0]),
            (BOB, [0]),
            (LOST, [0]),
            (on(1), [0, 172, 257]),
            (STATE, [0, 1, 0, 2, 1, 0, 0, 0, 0, 50, 0]),
            (ticks(60), [0]),
            (BOB, [0, 170]),
            (BOB, [0, 171]),
            (points(99), [0]),
            (LOST, [0, 173]),
            (on(21), [0, 258, 522, 256]),
            (STATE, [0, 2, 0, 0, 1, 0, 0, 0, 0, 0, 0]),
            (SCORES, [0, 0x1210, 0, 0, 0]),
            (START, [0, 169, 172, 257]),
            (SCORES, [0, 0, 0, 0, 0]),
        ])

    def test_two_players_with_levels_that_give_another_ball(self):
        self.play([
            (begin(1, 1, 0, 2, 1, 10, [0x50, 0x90]), [0]),
            (COIN, [0, 168, 256]),
            (COIN, [0, 168, 256]),
            (COIN, [0, 168, 256]),
            (START, [0, 169, 172, 257]),
            (START, [0, 169]),
            (START, [0]),
            (points(100), [0, 259, 259]),
            (LOST, [0, 174, 257]),
            (LOST, [0, 173]),
            (on(5), [0, 172, 257]),
            (STATE, [0, 1, 0, 1, 2, 0, 0, 0, 1, 10, 0]),
            (BOB, [0, 171]),
            (LOST, [0, 173]),
            (on(5), [0, 172, 257]),
            (STATE, [0, 1, 0, 1, 2, 0, 0, 0, 0, 10, 0]),
            (ticks(10), [0]),
            (LOST, [0, 173]),
            (on(5), [0, 172, 257]),
            (STATE, [0, 1, 0, 1, 2, 1, 0, 0, 0, 10, 0]),
            (points(49), [0]),
            (LOST, [0, 174, 257]),
            (LOST, [0, 173]),
            (points(1), [0, 259]),
            (on(5), [0, 172, 257]),
            (STATE, [0, 1, 0, 1, 2, 1, 0, 0, 0, 10, 0]),
            (ticks(4), [0]),
            (LOST, [0, 174, 257]),
            (LOST, [0, 173]),
            (on(2 ** 64 - 1), [0, 258, 562, 256]),
            (STATE, [0, 2, 0, 0, 2, 0, 0, 0, 0, 0, 0]),
            (SCORES, [0, 0x100, 0x50, 0, 0]),
        ])

    def test_three_players_of_whom_one_comes_late(self):
        self.play([
            (begin(1, 2, 2, 4, 0, 0, []), [0]),
            (COIN, [0, 168, 256]),
            (COIN, [0, 168, 256]),
            (START, [0, 169, 172, 257]),
            (START, [0, 169]),
            (points(10), [0]),
            (LOST, [0, 173]),
            (COIN, [0, 168, 256]),
            (START, [0]),
            (on(0), [0, 172, 257]),
            (START, [0, 169]),
            (points(20), [0]),
            (LOST, [0, 173]),
            (on(0), [0, 172, 257]),
            (STATE, [0, 0, 0, 1, 3, 2, 0, 0, 0, 0, 0]),
            (points(30), [0]),
            (LOST, [0, 173]),
            (on(0), [0, 172, 257]),
            (STATE, [0, 0, 0, 2, 3, 0, 0, 0, 0, 0, 0]),
            (COIN, [0, 168, 256]),
            (START, [0]),
            (points(10), [0]),
            (LOST, [0, 173]),
            (on(0), [0, 172, 257]),
            (LOST, [0, 173]),
            (on(0), [0, 172, 257]),
            (points(90), [0]),
            (LOST, [0, 173]),
            (on(2), [0, 258, 532, 256, 256, 256]),
            (SCORES, [0, 0x20, 0x20, 0x120, 0]),
            (STATE, [0, 4, 0, 0, 3, 0, 0, 0, 0, 0, 0]),
        ])

    def test_four_players_one_ball_each(self):
        self.play([
            (begin(1, 1, 0, 4, 0, 0, [5]), [0]),
            (COIN, [0, 168, 256]),
            (START, [0, 169, 172, 257]),
            (points(5), [0, 256]),
            (START, [0, 169]),
            (COIN, [0, 168, 256]),
            (COIN, [0, 168, 256]),
            (COIN, [0, 168, 256]),
            (START, [0, 169]),
            (START, [0, 169]),
            (START, [0]),
            (STATE, [0, 1, 0, 1, 4, 0, 0, 0, 0, 0, 0]),
            (LOST, [0, 173]),
            (on(9), [0, 172, 257]),
            (points(90), [0, 256]),
            (LOST, [0, 173]),
            (on(9), [0, 172, 257]),
            (BOB, [0, 171]),
            (points(90), [0]),
            (LOST, [0, 173]),
            (on(9), [0, 172, 257]),
            (points(1), [0]),
            (LOST, [0, 173]),
            (STATE, [0, 2, 0, 1, 4, 3, 0, 0, 0, 0, 1]),
            (on(9), [0, 258, 602, 256]),
            (STATE, [0, 3, 0, 0, 4, 0, 0, 0, 0, 0, 0]),
            (SCORES, [0, 5, 0x90, 0, 1]),
        ])


if __name__ == "__main__":
    unittest.main()
