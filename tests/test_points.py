"""Scores, sums, rolling over, levels, and step 4: points."""

import unittest

from balltable.games import is_score, levels_passed, number_of, score_of, sum_of
from tests.helper import (BOB, COIN, LOST, START, STATE, ask, begin, last, on, piled, points, score, scores, started,
                          state, told)

HIGHEST = 10 ** 12 - 1


class ScoreTest(unittest.TestCase):
    def test_the_example_of_the_document(self):
        self.assertEqual(number_of(0x1234567), 1234567)
        self.assertEqual(score_of(1234567), 0x1234567)

    def test_what_is_a_score(self):
        for whole in (0, 9, 0x10, 0x99, 0x1234567890, 0x999999999999):
            self.assertTrue(is_score(whole), whole)
        for whole in (0xA, 0x1F, 0xA0, 0xA00000000000, 0x99999999999A, 2 ** 48 - 1, 2 ** 48, 2 ** 64 - 1):
            self.assertFalse(is_score(whole), whole)

    def test_each_digit_has_its_worth(self):
        for place in range(12):
            for digit in range(1, 10):
                self.assertEqual(number_of(digit * 16 ** place), digit * 10 ** place)
                self.assertEqual(score_of(digit * 10 ** place), digit * 16 ** place)

    def test_sums(self):
        for first, second, result in ((0, 0, 0), (5, 5, 10), (99, 1, 100), (HIGHEST, 0, HIGHEST),
                                      (HIGHEST, 1, 0), (HIGHEST, HIGHEST, HIGHEST - 1), (HIGHEST - 1, 1, HIGHEST)):
            with self.subTest(first=first, second=second):
                self.assertEqual(sum_of(score(first), score(second)), score(result))

    def test_levels_passed(self):
        levels = [score(number) for number in (5, 10, 1000, HIGHEST)]
        for before, added, passed in ((0, 4, 0), (0, 5, 1), (4, 1, 1), (5, 4, 0), (5, 5, 1), (0, 10, 2), (0, 1000, 3),
                                      (4, HIGHEST - 4, 4), (HIGHEST, 5, 0), (HIGHEST, 6, 1), (HIGHEST, 11, 2),
                                      (HIGHEST - 1, 1, 1), (HIGHEST - 1, 7, 2), (HIGHEST, HIGHEST, 3),
                                      (1000, HIGHEST, 3), (1001, HIGHEST, 4)):
            with self.subTest(before=before, added=added):
                self.assertEqual(levels_passed(levels, score(before), score(added)), passed)

    def test_no_levels(self):
        self.assertEqual(levels_passed([], 0, score(HIGHEST)), 0)


class PointsTest(unittest.TestCase):
    def test_no_game_is_on(self):
        self.assertEqual(ask(begin(levels=[1]), points(5), STATE)[1:], [[0], [0] * 11])
        self.assertEqual(scores(begin(levels=[1]), points(5)), [0, 0, 0, 0])

    def test_points_are_told_in_digits_of_16(self):
        for number in (1, 9, 10, 15, 16, 99, 100, 1234567, 2 ** 32 - 1):
            with self.subTest(number=number):
                self.assertEqual(scores(*started(), points(number)), [score(number), 0, 0, 0])

    def test_points_add_up(self):
        self.assertEqual(scores(*started(), points(7), points(8), points(985)), [0x1000, 0, 0, 0])

    def test_points_0(self):
        game = started(levels=[1, 5]) + [points(5)]
        self.assertEqual(told(*game, points(0)), [])
        self.assertEqual(scores(*game, points(0)), [5, 0, 0, 0])
        self.assertEqual(state(*game, points(0)), state(*game))

    def test_points_go_to_the_player_whose_turn_it_is(self):
        game = started(4, balls=2, ticks=0)
        for number in (1, 20, 300, 4000, 5, 60, 700, 8000):
            game += [points(number), LOST, on(9)]
        self.assertEqual(scores(*game), [6, 0x80, 0x1000, 0x12000])

    def test_tilted_no_points(self):
        game = started(warnings=0, ticks=0, levels=[1]) + [BOB]
        self.assertEqual(told(*game, points(5)), [])
        self.assertEqual(scores(*game, points(5)), [0, 0, 0, 0])
        self.assertEqual(told(*game, LOST, points(5)), [])
        self.assertEqual(scores(*game, LOST, points(5)), [0, 0, 0, 0])

    def test_warned_points_count(self):
        self.assertEqual(scores(*started(warnings=1), BOB, points(5)), [5, 0, 0, 0])

    def test_points_count_when_the_ball_is_over(self):
        game = started(2, ticks=0, levels=[3]) + [LOST]
        self.assertEqual(told(*game, points(3)), [256])
        self.assertEqual(scores(*game, points(3)), [3, 0, 0, 0])
        self.assertEqual(scores(*game, points(3), on(), points(4)), [3, 4, 0, 0])

    def test_nothing_else_changes(self):
        game = started(ticks=44)
        self.assertEqual(state(*game, points(2 ** 32 - 1)), state(*game))

    def test_a_score_rolls_over(self):
        game = started() + piled(HIGHEST)
        self.assertEqual(scores(*game), [0x999999999999, 0, 0, 0])
        self.assertEqual(scores(*game, points(1)), [0, 0, 0, 0])
        self.assertEqual(scores(*game, points(12346)), [0x12345, 0, 0, 0])
        self.assertEqual(scores(*game, points(2 ** 32 - 1)), [score(2 ** 32 - 2), 0, 0, 0])

    def test_a_rolled_over_score_matches_by_its_last_digits(self):
        game = started(balls=1, ticks=0) + piled(HIGHEST) + [points(71), LOST]
        self.assertEqual(told(*game, on(7)), [258, 582, 256])


class LevelTest(unittest.TestCase):
    def test_a_level_gives_a_credit(self):
        game = started(gives=0, levels=[0x100])
        self.assertEqual(told(*game, points(99)), [])
        self.assertEqual(told(*game, points(99), points(1)), [256])
        self.assertEqual(told(*game, points(100)), [256])
        self.assertEqual(told(*game, points(100), points(1)), [])
        after = state(*game, points(100))
        self.assertEqual((after["credits"], after["more"]), (1, 0))

    def test_a_level_gives_another_ball(self):
        game = started(gives=1, levels=[0x100])
        self.assertEqual(told(*game, points(99)), [])
        self.assertEqual(told(*game, points(100)), [259])
        self.assertEqual(told(*game, points(101)), [259])
        after = state(*game, points(100))
        self.assertEqual((after["credits"], after["more"]), (0, 1))

    def test_several_levels_at_once(self):
        for gives, heard in ((0, 256), (1, 259)):
            game = started(gives=gives, levels=[0x10, 0x20, 0x30, 0x40])
            for many, number in ((0, 9), (1, 10), (1, 19), (2, 20), (2, 29), (3, 30), (4, 40), (4, 2 ** 32 - 1)):
                with self.subTest(gives=gives, number=number):
                    self.assertEqual(told(*game, points(number)), [heard] * many)
                    after = state(*game, points(number))
                    self.assertEqual(after["credits" if gives == 0 else "more"], many)

    def test_each_player_passes_levels(self):
        game = started(2, ticks=0, levels=[0x10]) + [points(10), LOST, on()]
        self.assertEqual(told(*game, points(10)), [256])

    def test_levels_in_the_next_game(self):
        game = started(balls=1, ticks=0, levels=[0x11]) + [points(11), LOST, on(0), START]
        self.assertEqual(told(*game, points(11)), [256])

    def test_levels_when_the_score_rolls_over(self):
        levels = [5, score(HIGHEST)]
        for gives, heard in ((0, 256), (1, 259)):
            game = started(gives=gives, levels=levels) + piled(HIGHEST - 9)
            for number, many in ((8, 0), (9, 1), (10, 1), (14, 1), (15, 2), (1000, 2)):
                with self.subTest(gives=gives, number=number):
                    self.assertEqual(told(*game, points(number)), [heard] * many)

    def test_levels_are_passed_again_behind_the_roll(self):
        game = started(levels=[5]) + piled(HIGHEST) + [points(1)]
        self.assertEqual(told(*game), [])
        self.assertEqual(told(*game, points(4)), [])
        self.assertEqual(told(*game, points(5)), [256])

    def test_level_credits_stay_at_99(self):
        game = [begin(levels=[1, 2, 3])] + [COIN] * 99 + [START]
        self.assertEqual(told(*game, points(3)), [256, 256, 256])
        self.assertEqual(state(*game, points(3))["credits"], 99)

    def test_more_balls_stay_at_9(self):
        game = started(gives=1, levels=[1, 2, 3, 4])
        # Each time round gives four balls more, and ends on 0 again.
        lap = [points(4)] + piled(10 ** 12 - 4)
        self.assertEqual(state(*game, *lap, *lap)["more"], 8)
        self.assertEqual(scores(*game, *lap, *lap), [0, 0, 0, 0])
        self.assertEqual(told(*game, *lap, *lap, points(4)), [259, 259, 259, 259])
        self.assertEqual(state(*game, *lap, *lap, points(1))["more"], 9)
        self.assertEqual(state(*game, *lap, *lap, points(2))["more"], 9)
        self.assertEqual(state(*game, *lap, *lap, points(4))["more"], 9)

    def test_nine_more_balls_are_nine_turns(self):
        lap = [points(4)] + piled(10 ** 12 - 4)
        game = started(balls=1, ticks=0, gives=1, levels=[1, 2, 3, 4]) + lap + lap + [points(4)]
        given = ask(*game, *[LOST, on(1)] * 10)[len(game):]
        self.assertEqual(given, [[0, 173], [0, 172, 257]] * 9 + [[0, 173], [0, 258, 522]])

    def test_more_balls_are_used_before_the_next_player(self):
        game = started(2, ticks=0, gives=1, levels=[1]) + [points(1), LOST, on(), LOST, on()]
        self.assertEqual(last(*game, STATE), [0, 0, 0, 1, 2, 1, 0, 0, 0, 0, 0])
        self.assertEqual(told(*game, points(1)), [259])
        self.assertEqual(state(*game, points(1))["more"], 1)


if __name__ == "__main__":
    unittest.main()
