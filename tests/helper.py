"""Calls in the form that answers takes, and its answers one by one."""

from balltable.games import answers

STATE = [3]
SCORES = [4]


def begin(coins=1, balls=3, warnings=2, players=4, gives=0, ticks=100, levels=()):
    return [1, coins, balls, warnings, players, gives, ticks, len(levels)] + list(levels)


def step(what, how_much=0, tick=0):
    return [2, what, how_much, tick]


COIN = step(0)
START = step(1)
LOST = step(2)
BOB = step(3)


def points(many):
    return step(4, many)


def ticks(many):
    return step(5, many)


def on(tick=1):
    return step(6, 0, tick)


def started(players=1, **setup):
    """The calls that begin a table and start a game of so many players, one credit each."""
    return [begin(**setup)] + [COIN] * (setup.get("coins", 1) * players) + [START] * players


def joined(calls):
    row = []
    for call in calls:
        row.extend(call)
    return row


def split(given):
    """Take a row of answers apart, each without the count before it."""
    parts = []
    at = 0
    while at < len(given):
        count = given[at]
        part = given[at + 1:at + 1 + count]
        if count < 1 or len(part) != count:
            raise AssertionError(f"no row of answers: {given!r}")
        parts.append(part)
        at += 1 + count
    return parts


def ask(*calls):
    """The answer to each call, in order."""
    parts = split(answers(joined(calls)))
    if len(parts) != len(calls):
        raise AssertionError(f"{len(calls)} calls, {len(parts)} answers")
    return parts


def last(*calls):
    """The answer to the last of the calls."""
    return ask(*calls)[-1]


def told(*calls):
    """What the last call, a step, told; it must not be refused."""
    answer = last(*calls)
    if answer[0] != 0:
        raise AssertionError(f"refused: {answer!r}")
    return answer[1:]


STATE_NAMES = ("credits", "coins", "ball", "players", "turn", "warned", "tilted", "more", "ticks", "over")


def state(*calls):
    """The state behind the calls, by the names of its numbers."""
    answer = last(*calls, STATE)
    if len(answer) != 11 or answer[0] != 0:
        raise AssertionError(f"no state: {answer!r}")
    return dict(zip(STATE_NAMES, answer[1:]))


def scores(*calls):
    """The four scores behind the calls."""
    answer = last(*calls, SCORES)
    if len(answer) != 5 or answer[0] != 0:
        raise AssertionError(f"no scores: {answer!r}")
    return answer[1:]


def piled(number):
    """Steps of points that add up to number, each below 2^32."""
    most = 2 ** 32 - 1
    rows = [points(most)] * (number // most)
    if number % most:
        rows.append(points(number % most))
    return rows


def score(number):
    """The score whose number this is, read from its digits as the document's example does."""
    return int(str(number), 16)
