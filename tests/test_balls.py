"""Step 2, 3, 5 and 6: lost balls, the bob, ticks, and on to the next ball."""

import unittest

from tests.helper import (BOB, COIN, LOST, START, STATE, ask, begin, last, on, points, scores, started, state, ticks,
                          told)

MOST_TICK = 2 ** 64 - 1


class LostTest(unittest.TestCase):
    def test_no_game_is_on(self):
        self.assertEqual(ask(begin(), LOST, STATE)[1:], [[0], [0] * 11])

    def test_it_comes_back_once(self):
        game = started(ticks=100)
        given = ask(*game, LOST, STATE, LOST, STATE, LOST)
        self.assertEqual(given[len(game):], [
            [0, 174, 257], [0, 0, 0, 1, 1, 0, 0, 0, 0, 0, 0],
            [0, 173], [0, 0, 0, 1, 1, 0, 0, 0, 0, 0, 1],
            [0],
        ])

    def test_one_tick_left_and_none(self):
        game = started(ticks=100)
        self.assertEqual(told(*game, ticks(99), LOST), [174, 257])
        self.assertEqual(told(*game, ticks(100), LOST), [173])
        self.assertEqual(told(*game, ticks(101), LOST), [173])

    def test_setup_without_ticks(self):
        self.assertEqual(told(*started(ticks=0), LOST), [173])

    def test_tilted_it_never_comes_back(self):
        game = started(ticks=100, warnings=0)
        self.assertEqual(told(*game, BOB, LOST), [173])
        self.assertEqual(last(*game, BOB, LOST, STATE), [0, 0, 0, 1, 1, 0, 0, 1, 0, 0, 1])

    def test_warned_it_still_comes_back(self):
        game = started(ticks=100, warnings=1)
        self.assertEqual(told(*game, BOB, LOST), [174, 257])
        self.assertEqual(state(*game, BOB, LOST)["warned"], 1)

    def test_each_ball_comes_back_anew(self):
        game = started(ticks=5, balls=2) + [LOST, LOST, on()]
        self.assertEqual(state(*game)["ticks"], 5)
        self.assertEqual(told(*game, LOST), [174, 257])


class BobTest(unittest.TestCase):
    def test_no_game_is_on(self):
        self.assertEqual(ask(begin(warnings=0), BOB, STATE)[1:], [[0], [0] * 11])

    def test_no_some_and_many_warnings(self):
        for warnings in (0, 1, 2, 9):
            with self.subTest(warnings=warnings):
                game = started(warnings=warnings)
                given = ask(*game, *[BOB] * (warnings + 2))[len(game):]
                self.assertEqual(given, [[0, 170]] * warnings + [[0, 171], [0]])

    def test_state_when_warned_and_tilted(self):
        game = started(warnings=2, ticks=50)
        self.assertEqual(last(*game, BOB, STATE), [0, 0, 0, 1, 1, 0, 1, 0, 0, 50, 0])
        self.assertEqual(last(*game, BOB, BOB, STATE), [0, 0, 0, 1, 1, 0, 2, 0, 0, 50, 0])
        self.assertEqual(last(*game, BOB, BOB, BOB, STATE), [0, 0, 0, 1, 1, 0, 2, 1, 0, 0, 0])
        self.assertEqual(last(*game, BOB, BOB, BOB, BOB, STATE), [0, 0, 0, 1, 1, 0, 2, 1, 0, 0, 0])

    def test_nothing_when_the_ball_is_over(self):
        for warnings in (0, 1):
            game = started(warnings=warnings, ticks=0) + [LOST]
            self.assertEqual(told(*game, BOB), [])
            self.assertEqual(state(*game, BOB), state(*game))

    def test_the_next_ball_is_neither_warned_nor_tilted(self):
        game = started(warnings=1, ticks=8) + [BOB, BOB, LOST]
        given = ask(*game, on(), STATE, BOB, BOB)
        self.assertEqual(given[len(game):],
                         [[0, 172, 257], [0, 0, 0, 2, 1, 0, 0, 0, 0, 8, 0], [0, 170], [0, 171]])

    def test_the_next_player_is_not_warned(self):
        game = started(2, warnings=1, ticks=0) + [BOB, LOST, on()]
        self.assertEqual(last(*game, STATE), [0, 0, 0, 1, 2, 1, 0, 0, 0, 0, 0])

    def test_a_ball_that_comes_back_keeps_its_warnings(self):
        game = started(warnings=1, ticks=9) + [BOB, LOST]
        self.assertEqual(told(*game, BOB), [171])


class TicksTest(unittest.TestCase):
    def test_no_game_is_on(self):
        self.assertEqual(ask(begin(), ticks(5), STATE)[1:], [[0], [0] * 11])

    def test_as_many_less_and_0_at_least(self):
        game = started(ticks=100)
        for many, left in ((0, 100), (1, 99), (99, 1), (100, 0), (101, 0), (2 ** 32 - 1, 0)):
            with self.subTest(many=many):
                before = state(*game)
                before["ticks"] = left
                self.assertEqual(told(*game, ticks(many)), [])
                self.assertEqual(state(*game, ticks(many)), before)

    def test_ticks_add_up(self):
        game = started(ticks=100000)
        self.assertEqual(state(*game, ticks(99998), ticks(1))["ticks"], 1)

    def test_when_the_ball_is_over(self):
        game = started(ticks=100) + [LOST, LOST]
        self.assertEqual(told(*game, ticks(1)), [])
        self.assertEqual(state(*game, ticks(1)), state(*game))

    def test_the_tick_number_takes_no_ticks(self):
        game = started(ticks=100)
        self.assertEqual(state(*game, [2, 5, 1, MOST_TICK])["ticks"], 99)


class OnTest(unittest.TestCase):
    def test_no_game_is_on(self):
        self.assertEqual(ask(begin(), on(), STATE)[1:], [[0], [0] * 11])

    def test_nothing_while_the_ball_is_not_over(self):
        game = started(ticks=9)
        self.assertEqual(told(*game, on()), [])
        self.assertEqual(state(*game, on()), state(*game))
        self.assertEqual(told(*game, LOST, on()), [])

    def test_turns_go_round(self):
        game = started(3, balls=2, ticks=0)
        seen = []
        for turn in range(6):
            now = state(*game)
            seen.append((now["ball"], now["turn"]))
            game += [LOST, on(1)]
        self.assertEqual(seen, [(1, 0), (1, 1), (1, 2), (2, 0), (2, 1), (2, 2)])
        self.assertEqual(told(*game[:-2], LOST, on(1)), [258, 522])

    def test_more_balls_come_before_the_next_player(self):
        game = started(2, balls=1, ticks=6, gives=1, levels=[1, 2]) + [points(2)]
        self.assertEqual(state(*game)["more"], 2)
        given = ask(*game, LOST, LOST, on(), STATE, LOST, LOST, on(), STATE, LOST, LOST, on(), STATE)[len(game):]
        self.assertEqual(given[2:4], [[0, 172, 257], [0, 0, 0, 1, 2, 0, 0, 0, 1, 6, 0]])
        self.assertEqual(given[6:8], [[0, 172, 257], [0, 0, 0, 1, 2, 0, 0, 0, 0, 6, 0]])
        self.assertEqual(given[10:12], [[0, 172, 257], [0, 0, 0, 1, 2, 1, 0, 0, 0, 6, 0]])

    def test_another_ball_behind_a_tilt(self):
        game = started(balls=1, ticks=6, warnings=0, gives=1, levels=[1]) + [points(1), BOB, LOST, on()]
        self.assertEqual(last(*game, STATE), [0, 0, 0, 1, 1, 0, 0, 0, 0, 6, 0])

    def test_another_ball_given_when_the_ball_is_over(self):
        game = started(balls=1, ticks=0, gives=1, levels=[1]) + [LOST, points(1)]
        self.assertEqual(last(*game, STATE), [0, 0, 0, 1, 1, 0, 0, 0, 1, 0, 1])
        self.assertEqual(told(*game, on()), [172, 257])

    def test_as_many_balls_as_the_setup_says(self):
        for balls in (1, 2, 9):
            game = started(balls=balls, ticks=0) + [LOST, on(1)] * (balls - 1)
            self.assertEqual(state(*game)["ball"], balls)
            self.assertEqual(told(*game, LOST, on(1)), [258, 522])


class GameOverTest(unittest.TestCase):
    def test_state_and_scores_behind_it(self):
        game = started(2, balls=1, ticks=5, warnings=1) + [points(7), LOST, LOST, on(), points(8), BOB, BOB, LOST]
        self.assertEqual(last(*game, STATE), [0, 0, 0, 1, 2, 1, 1, 1, 0, 0, 1])
        self.assertEqual(last(*game, on(2), STATE), [0, 0, 0, 0, 2, 0, 0, 0, 0, 0, 0])
        self.assertEqual(scores(*game, on(2)), [7, 8, 0, 0])

    def test_the_drawn_number(self):
        game = started(balls=1, ticks=0) + [points(1), LOST]
        for tick, drawn in ((0, 0), (1, 10), (9, 90), (10, 0), (11, 10), (99, 90), (2 ** 32, 60),
                            (2 ** 32 + 1, 70), (2 ** 64 - 2, 40), (MOST_TICK, 50)):
            with self.subTest(tick=tick):
                self.assertEqual(told(*game, on(tick)), [258, 512 + drawn])

    def test_who_matches_has_a_credit(self):
        game = started(balls=1, ticks=0)
        for number in (50, 150, 1050, 123456750):
            with self.subTest(number=number):
                calls = game + [points(number), LOST, on(5)]
                self.assertEqual(told(*calls), [258, 562, 256])
                self.assertEqual(state(*calls)["credits"], 1)

    def test_who_does_not_match(self):
        game = started(balls=1, ticks=0)
        for number in (5, 51, 40, 500, 5050001, 49):
            with self.subTest(number=number):
                calls = game + [points(number), LOST, on(5)]
                self.assertEqual(told(*calls), [258, 562])
                self.assertEqual(state(*calls)["credits"], 0)

    def test_no_points_match_a_drawn_0_but_not_for_players_who_are_not_there(self):
        for players in (1, 2, 3, 4):
            with self.subTest(players=players):
                game = started(players, balls=1, ticks=0) + [LOST, on(0)] * players
                self.assertEqual(told(*game), [258, 512] + [256] * players)
                self.assertEqual(state(*game)["credits"], players)

    def test_some_of_the_players_match(self):
        game = started(4, balls=1, ticks=0)
        for number in (110, 20, 10, 1):
            game += [points(number), LOST, on(1)]
        self.assertEqual(told(*game), [258, 522, 256, 256])
        self.assertEqual(state(*game)["credits"], 2)

    def test_the_last_player_matches_alone(self):
        game = started(4, balls=1, ticks=0) + [LOST, on(1)] * 3 + [points(10), LOST, on(1)]
        self.assertEqual(told(*game), [258, 522, 256])

    def test_a_match_at_99_credits(self):
        game = started(2, balls=1, ticks=0) + [COIN] * 98 + [LOST, on(0)]
        self.assertEqual(state(*game)["credits"], 98)
        self.assertEqual(told(*game, LOST, on(0)), [258, 512, 256, 256])
        self.assertEqual(state(*game, LOST, on(0))["credits"], 99)

    def test_a_match_is_not_towards_coins(self):
        game = [begin(coins=3, balls=1, ticks=0)] + [COIN] * 5 + [START, LOST, on(0)]
        self.assertEqual(last(*game, STATE)[1:3], [1, 2])

    def test_nothing_goes_on_when_the_game_is_over(self):
        game = started(balls=1, ticks=0, warnings=0) + [points(3), LOST, on(1)]
        for call in (LOST, BOB, points(5), ticks(5), on(0), START):
            self.assertEqual(told(*game, call), [])
            self.assertEqual(state(*game, call), state(*game))
            self.assertEqual(scores(*game, call), [3, 0, 0, 0])


if __name__ == "__main__":
    unittest.main()
