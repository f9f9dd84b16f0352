"""Call 1, begin: setups, and what is none."""

import unittest

from tests.helper import BOB, COIN, LOST, SCORES, START, STATE, ask, begin, last, on, points, score, told

RANGES = (
    ("coins", 1, 9),
    ("balls", 1, 9),
    ("warnings", 0, 9),
    ("players", 1, 4),
    ("gives", 0, 1),
    ("ticks", 0, 100000),
)


class BeginTest(unittest.TestCase):
    def test_at_the_beginning_all_is_0(self):
        self.assertEqual(ask(begin(), STATE, SCORES), [[0], [0] + [0] * 10, [0, 0, 0, 0, 0]])

    def test_each_range_at_its_ends(self):
        for name, low, high in RANGES:
            for value in (low, high):
                with self.subTest(name=name, value=value):
                    self.assertEqual(last(begin(**{name: value})), [0])

    def test_each_range_one_beyond_and_far_beyond(self):
        for name, low, high in RANGES:
            beyond = [high + 1, 2 ** 32 - 1]
            if low > 0:
                beyond.append(low - 1)
            for value in beyond:
                with self.subTest(name=name, value=value):
                    self.assertEqual(last(begin(**{name: value})), [-1])

    def test_all_ranges_at_their_ends_together(self):
        self.assertEqual(last(begin(1, 1, 0, 1, 0, 0)), [0])
        self.assertEqual(last(begin(9, 9, 9, 4, 1, 100000, [1, 2, 3, score(10 ** 12 - 1)])), [0])

    def test_levels_that_are_a_setup(self):
        highest = score(10 ** 12 - 1)
        for levels in ([], [1], [highest], [9, 0x10], [1, 2, 3, 4], [0x999, 0x1000, 0x1001, highest]):
            with self.subTest(levels=levels):
                self.assertEqual(last(begin(levels=levels)), [0])

    def test_more_than_four_levels(self):
        rising = [1, 2, 3, 4, 5, 6, 7, 8, 9, 0x10]
        for many in range(5, 11):
            with self.subTest(many=many):
                self.assertEqual(last(begin(levels=rising[:many])), [-1])

    def test_levels_that_are_not_rising(self):
        for levels in ([5, 5], [5, 4], [1, 3, 2], [1, 2, 3, 3], [0x10, 9], [1, 2, 3, 1]):
            with self.subTest(levels=levels):
                self.assertEqual(last(begin(levels=levels)), [-1])

    def test_level_0(self):
        self.assertEqual(last(begin(levels=[0])), [-1])
        self.assertEqual(last(begin(levels=[0, 1])), [-1])

    def test_levels_that_are_no_scores(self):
        wrong = [0xA, 0xF, 0x1A, 0xA0, 0x10B, 0xA00000000000, 2 ** 48 - 1, 2 ** 48, 2 ** 48 + 1, 2 ** 63, 2 ** 64 - 1]
        wrong += [1 + (10 << (4 * place)) for place in range(1, 12)]
        for level in wrong:
            for levels in ([level], [1, level], [level, score(10 ** 12 - 1)]):
                with self.subTest(levels=levels):
                    self.assertEqual(last(begin(levels=levels)), [-1])

    def test_a_level_is_read_by_its_digits_of_16(self):
        setup = begin(levels=[0x1234567])
        self.assertEqual(told(setup, COIN, START, points(1234566)), [])
        self.assertEqual(told(setup, COIN, START, points(1234567)), [256])

    def test_coins_of_the_setup_count(self):
        for coins in (1, 2, 9):
            given = ask(begin(coins=coins), *[COIN] * (2 * coins))[1:]
            one = [[0, 168]] * (coins - 1) + [[0, 168, 256]]
            self.assertEqual(given, one * 2)

    def test_begin_takes_the_place_of_what_was(self):
        game = [begin(coins=2, warnings=0, ticks=7, gives=1, levels=[1]), COIN, COIN, COIN, START, points(3), BOB]
        given = ask(*game, begin(coins=3), STATE, SCORES, COIN, COIN, COIN)
        self.assertEqual(given[len(game):],
                         [[0], [0] * 11, [0] * 5, [0, 168], [0, 168], [0, 168, 256]])

    def test_begin_while_a_ball_is_over(self):
        given = ask(begin(ticks=0), COIN, START, LOST, begin(ticks=0), on(), STATE)
        self.assertEqual(given[-2:], [[0], [0] * 11])

    def test_no_setup_when_something_was_begun(self):
        game = [begin(coins=2, levels=[5]), COIN, COIN, COIN, START, points(7)]
        for wrong in (begin(coins=0), begin(balls=10), begin(levels=[0]), begin(levels=[1, 2, 3, 4, 5])):
            with self.subTest(wrong=wrong):
                before = ask(*game, STATE, SCORES)[-2:]
                given = ask(*game, wrong, STATE, SCORES, COIN)
                self.assertEqual(given[-4:], [[-1]] + before + [[0, 168, 256]])

    def test_no_setup_when_nothing_was_begun(self):
        self.assertEqual(ask(begin(coins=0), STATE, SCORES, COIN, begin(), STATE),
                         [[-1], [-10], [-10], [-10], [0], [0] * 11])


if __name__ == "__main__":
    unittest.main()
