"""Step 0 and 1: coins, credits, and the start button."""

import unittest

from tests.helper import BOB, COIN, LOST, START, STATE, ask, begin, last, on, points, scores, state, told


class CoinTest(unittest.TestCase):
    def test_a_coin_for_each_credit(self):
        self.assertEqual(told(begin(coins=1), COIN), [168, 256])
        self.assertEqual(last(begin(coins=1), COIN, STATE)[1:3], [1, 0])

    def test_coins_towards_the_next_credit(self):
        calls = [begin(coins=3)]
        for credits, coins, heard in ((0, 1, [168]), (0, 2, [168]), (1, 0, [168, 256]), (1, 1, [168])):
            calls.append(COIN)
            self.assertEqual(told(*calls), heard)
            self.assertEqual(last(*calls, STATE)[1:3], [credits, coins])

    def test_credits_stay_at_99(self):
        calls = [begin(coins=1)] + [COIN] * 99
        self.assertEqual(state(*calls)["credits"], 99)
        self.assertEqual(told(*calls, COIN), [168, 256])
        self.assertEqual(state(*calls, COIN)["credits"], 99)
        self.assertEqual(state(*calls, COIN, START)["credits"], 98)

    def test_coins_go_at_99_too(self):
        calls = [begin(coins=2)] + [COIN] * 199
        self.assertEqual(last(*calls, STATE)[1:3], [99, 1])
        self.assertEqual(told(*calls, COIN), [168, 256])
        self.assertEqual(last(*calls, COIN, STATE)[1:3], [99, 0])

    def test_coins_while_a_game_is_on_tilted_and_over(self):
        game = [begin(warnings=0, ticks=0), COIN, START, BOB, LOST]
        before = state(*game)
        self.assertEqual(told(*game, COIN), [168, 256])
        before["credits"] += 1
        self.assertEqual(state(*game, COIN), before)

    def test_coins_stay_when_a_game_starts(self):
        calls = [begin(coins=2), COIN, COIN, COIN, START]
        self.assertEqual(last(*calls, STATE)[1:3], [0, 1])


class StartTest(unittest.TestCase):
    def test_no_credit(self):
        self.assertEqual(ask(begin(), START, STATE)[1:], [[0], [0] * 11])
        self.assertEqual(ask(begin(coins=2), COIN, START, STATE)[2:], [[0], [0, 0, 1] + [0] * 8])

    def test_no_credit_while_a_game_is_on(self):
        game = [begin(), COIN, START]
        self.assertEqual(told(*game, START), [])
        self.assertEqual(state(*game, START), state(*game))

    def test_a_game_starts(self):
        given = ask(begin(ticks=77), COIN, START, STATE)
        self.assertEqual(given[2:], [[0, 169, 172, 257], [0, 0, 0, 1, 1, 0, 0, 0, 0, 77, 0]])

    def test_one_player_more_at_ball_1(self):
        game = [begin(players=4), COIN, COIN, COIN, START]
        given = ask(*game, START, STATE, START, STATE)
        self.assertEqual(given[len(game):], [
            [0, 169], [0, 1, 0, 1, 2, 0, 0, 0, 0, 100, 0],
            [0, 169], [0, 0, 0, 1, 3, 0, 0, 0, 0, 100, 0],
        ])

    def test_as_many_players_as_may_be(self):
        for most in (1, 2, 3, 4):
            with self.subTest(most=most):
                game = [begin(players=most)] + [COIN] * 5 + [START] * most
                self.assertEqual(state(*game)["players"], most)
                self.assertEqual(told(*game, START), [])
                self.assertEqual(state(*game, START), state(*game))

    def test_a_player_joins_while_tilted_or_warned(self):
        game = [begin(warnings=1), COIN, COIN, COIN, START]
        self.assertEqual(told(*game, BOB, START), [169])
        self.assertEqual(told(*game, BOB, BOB, START), [169])
        after = state(*game, BOB, BOB, START)
        self.assertEqual((after["players"], after["warned"], after["tilted"]), (2, 1, 1))

    def test_a_player_joins_in_the_second_turn_of_ball_1(self):
        game = [begin(ticks=0), COIN, COIN, COIN, START, START, LOST, on()]
        self.assertEqual(state(*game)["turn"], 1)
        self.assertEqual(told(*game, START), [169])
        self.assertEqual(state(*game, START)["players"], 3)

    def test_a_player_joins_while_the_first_plays_another_ball(self):
        game = [begin(ticks=0, gives=1, levels=[1]), COIN, COIN, START, points(1), LOST, on()]
        self.assertEqual(told(*game, START), [169])

    def test_nobody_joins_when_the_ball_is_over(self):
        game = [begin(ticks=0), COIN, COIN, START, LOST]
        self.assertEqual(told(*game, START), [])
        self.assertEqual(state(*game, START), state(*game))

    def test_nobody_joins_at_a_later_ball(self):
        game = [begin(ticks=0), COIN, COIN, START, LOST, on()]
        self.assertEqual(state(*game)["ball"], 2)
        self.assertEqual(told(*game, START), [])
        self.assertEqual(state(*game, START), state(*game))

    def test_who_joins_has_no_points(self):
        game = [begin(), COIN, COIN, START, points(50), START]
        self.assertEqual(scores(*game), [0x50, 0, 0, 0])

    def test_the_next_game_starts_anew(self):
        game = [begin(balls=1, ticks=9), COIN, COIN, COIN, START, START, points(5), LOST, LOST, on(),
                points(6), LOST, LOST, on(3)]
        self.assertEqual(last(*game, STATE), [0, 1, 0, 0, 2, 0, 0, 0, 0, 0, 0])
        self.assertEqual(scores(*game), [5, 6, 0, 0])
        given = ask(*game, START, STATE)
        self.assertEqual(given[-2:], [[0, 169, 172, 257], [0, 0, 0, 1, 1, 0, 0, 0, 0, 9, 0]])
        self.assertEqual(scores(*game, START), [0, 0, 0, 0])


if __name__ == "__main__":
    unittest.main()
