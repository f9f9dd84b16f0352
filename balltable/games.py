"""Games on a pinball table: coins, players, balls, tilts, levels and the match.

answers(calls) is the one function to be used from outside.
"""

CALL_BEGIN = 1
CALL_STEP = 2
CALL_STATE = 3

DONE = 0
REFUSED = -1
NOTHING_BEGUN = -10

WHAT_COIN = 0
WHAT_START = 1
WHAT_LOST = 2
WHAT_BOB = 3
WHAT_POINTS = 4
WHAT_TICKS = 5
WHAT_ON = 6

TOLD_COIN = 168
TOLD_PLAYER = 169
TOLD_WARNED = 170
TOLD_TILTED = 171
TOLD_BALL_BEGINS = 172
TOLD_BALL_OVER = 173
TOLD_BALL_BACK = 174
TOLD_CREDIT = 256
TOLD_PUT_BALL_IN = 257
TOLD_GAME_OVER = 258
TOLD_MORE_BALL = 259
TOLD_DRAWN = 512

MOST_CREDITS = 99
MOST_MORE_BALLS = 9
MOST_LEVELS = 4
MOST_TICKS = 100000
SEATS = 4

SCORE_END = 281474976710656
ROLLS_OVER_AT = 1000000000000

BEGIN_LENGTH = 8
STEP_LENGTH = 4


# The rules of the table, as begin was given them.
class Setup:
    def __init__(self, numbers, levels):
        self.coins_for_credit = numbers[0]
        self.balls_for_player = numbers[1]
        self.warnings = numbers[2]
        self.most_players = numbers[3]
        self.level_gives = numbers[4]
        self.back_ticks = numbers[5]
        self.levels = levels


# What is paid, and the game that is on; ball 0 says that none is, so it needs no mark of its own.
class Game:
    def __init__(self, setup):
        self.setup = setup
        self.credit_count = 0
        self.coin_count = 0
        self.ball = 0
        self.player_count = 0
        self.scores = [0] * SEATS
        self.clear_turn()

    def clear_turn(self):
        self.turn = 0
        self.warned = 0
        self.tilted = False
        self.more_balls = 0
        self.ticks_left = 0
        self.ball_over = False


# The one object that calls speak to; its game is None as long as nothing is begun.
class Table:
    def __init__(self):
        self.game = None


def is_score(whole):
    if whole >= SCORE_END:
        return False
    rest = whole
    while rest > 0:
        if rest % 16 > 9:
            return False
        rest = rest // 16
    return True


def number_of(score):
    number = 0
    worth = 1
    rest = score
    while rest > 0:
        number += rest % 16 * worth
        worth = worth * 10
        rest = rest // 16
    return number


def score_of(number):
    score = 0
    worth = 1
    rest = number
    while rest > 0:
        score += rest % 10 * worth
        worth = worth * 16
        rest = rest // 10
    return score


def sum_of(first, second):
    return score_of((number_of(first) + number_of(second)) % ROLLS_OVER_AT)


def levels_passed(levels, score, added):
    before = number_of(score)
    after = before + number_of(added)
    passed = 0
    for level in levels:
        number = number_of(level)
        if before < number <= after:
            passed += 1
        if number + ROLLS_OVER_AT <= after:
            passed += 1
    return passed


def are_levels(levels):
    if len(levels) > MOST_LEVELS:
        return False
    highest = 0
    for level in levels:
        # Digits of 16 that are all 0 to 9 stand in the same order as the numbers they tell.
        if level <= highest or not is_score(level):
            return False
        highest = level
    return True


def is_setup(setup):
    return (
        1 <= setup.coins_for_credit <= 9
        and 1 <= setup.balls_for_player <= 9
        and 0 <= setup.warnings <= 9
        and 1 <= setup.most_players <= SEATS
        and 0 <= setup.level_gives <= 1
        and 0 <= setup.back_ticks <= MOST_TICKS
        and are_levels(setup.levels)
    )


def give_credit(game):
    game.credit_count = min(game.credit_count + 1, MOST_CREDITS)
    return [TOLD_CREDIT]


def give_more_ball(game):
    game.more_balls = min(game.more_balls + 1, MOST_MORE_BALLS)
    return [TOLD_MORE_BALL]


def take_coin(game):
    game.coin_count += 1
    if game.coin_count < game.setup.coins_for_credit:
        return [TOLD_COIN]
    game.coin_count = 0
    return [TOLD_COIN] + give_credit(game)


def begin_ball(game):
    game.warned = 0
    game.tilted = False
    game.ball_over = False
    game.ticks_left = game.setup.back_ticks
    return [TOLD_BALL_BEGINS, TOLD_PUT_BALL_IN]


def start_game(game):
    game.credit_count -= 1
    game.ball = 1
    game.player_count = 1
    game.scores = [0] * SEATS
    game.clear_turn()
    return [TOLD_PLAYER] + begin_ball(game)


def join_player(game):
    game.credit_count -= 1
    game.player_count += 1
    return [TOLD_PLAYER]


def press_start(game):
    if game.credit_count == 0:
        return []
    if game.ball == 0:
        return start_game(game)
    if game.ball == 1 and not game.ball_over and game.player_count < game.setup.most_players:
        return join_player(game)
    return []


def lose_balls(game):
    if game.ball == 0 or game.ball_over:
        return []
    comes_back = game.ticks_left > 0 and not game.tilted
    game.ticks_left = 0
    if comes_back:
        return [TOLD_BALL_BACK, TOLD_PUT_BALL_IN]
    game.ball_over = True
    return [TOLD_BALL_OVER]


def push_bob(game):
    if game.ball == 0 or game.tilted or game.ball_over:
        return []
    if game.warned < game.setup.warnings:
        game.warned += 1
        return [TOLD_WARNED]
    game.tilted = True
    game.ticks_left = 0
    return [TOLD_TILTED]


def give_for_level(game):
    if game.setup.level_gives == 0:
        return give_credit(game)
    return give_more_ball(game)


def add_points(game, points):
    if game.ball == 0 or game.tilted or points == 0:
        return []
    score = game.scores[game.turn]
    added = score_of(points)
    game.scores[game.turn] = sum_of(score, added)
    told = []
    left = levels_passed(game.setup.levels, score, added)
    while left > 0:
        told.extend(give_for_level(game))
        left -= 1
    return told


def pass_ticks(game, ticks):
    if game.ball > 0:
        game.ticks_left = max(game.ticks_left - ticks, 0)
    return []


def end_game(game, tick):
    drawn = 10 * (tick % 10)
    told = [TOLD_GAME_OVER, TOLD_DRAWN + drawn]
    # Seats without a player hold 0 too, so only the players' own scores are matched.
    for score in game.scores[:game.player_count]:
        if number_of(score) % 100 == drawn:
            told.extend(give_credit(game))
    game.ball = 0
    game.clear_turn()
    return told


def go_on(game, tick):
    if game.ball == 0 or not game.ball_over:
        return []
    if game.more_balls > 0:
        game.more_balls -= 1
        return begin_ball(game)
    game.turn += 1
    if game.turn == game.player_count:
        game.turn = 0
        game.ball += 1
    if game.ball > game.setup.balls_for_player:
        return end_game(game, tick)
    return begin_ball(game)


def is_step(what, how_much):
    if what > WHAT_ON:
        return False
    return how_much == 0 or what == WHAT_POINTS or what == WHAT_TICKS


def happen(game, what, how_much, tick):
    if what == WHAT_COIN:
        return take_coin(game)
    if what == WHAT_START:
        return press_start(game)
    if what == WHAT_LOST:
        return lose_balls(game)
    if what == WHAT_BOB:
        return push_bob(game)
    if what == WHAT_POINTS:
        return add_points(game, how_much)
    if what == WHAT_TICKS:
        return pass_ticks(game, how_much)
    return go_on(game, tick)


def answer_begin(table, call):
    setup = Setup(call[1:BEGIN_LENGTH - 1], call[BEGIN_LENGTH:])
    if not is_setup(setup):
        return [REFUSED]
    table.game = Game(setup)
    return [DONE]


def answer_step(game, call):
    if not is_step(call[1], call[2]):
        return [REFUSED]
    return [DONE] + happen(game, call[1], call[2], call[3])


def answer_state(game):
    return [
        DONE,
        game.credit_count,
        game.coin_count,
        game.ball,
        game.player_count,
        game.turn,
        game.warned,
        1 if game.tilted else 0,
        game.more_balls,
        game.ticks_left,
        1 if game.ball_over else 0,
    ]


def answer_call(table, call):
    if call[0] == CALL_BEGIN:
        return answer_begin(table, call)
    if table.game is None:
        return [NOTHING_BEGUN]
    if call[0] == CALL_STEP:
        return answer_step(table.game, call)
    if call[0] == CALL_STATE:
        return answer_state(table.game)
    return [DONE] + table.game.scores


def length_of_call(calls, start):
    if calls[start] == CALL_BEGIN:
        return BEGIN_LENGTH + calls[start + BEGIN_LENGTH - 1]
    if calls[start] == CALL_STEP:
        return STEP_LENGTH
    return 1


def answers(calls):
    table = Table()
    given = []
    start = 0
    while start < len(calls):
        end = start + length_of_call(calls, start)
        answer = answer_call(table, calls[start:end])
        given.append(len(answer))
        given.extend(answer)
        start = end
    return given
