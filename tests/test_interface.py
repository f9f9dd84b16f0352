"""How calls and answers stand in their lists, and what the function leaves alone."""

import contextlib
import io
import sys
import unittest
from unittest import mock

from balltable.games import answers
from tests.helper import (BOB, COIN, LOST, SCORES, START, STATE, ask, begin, joined, on, points, step, ticks)

GAME = joined([
    STATE, begin(1, 1, 1, 2, 1, 9, [1, 0x20]), COIN, COIN, START, START, points(30), BOB, BOB, STATE, LOST, on(3),
    step(7), begin(0), LOST, LOST, on(3), SCORES, ticks(4), points(5), LOST, LOST, on(3), LOST, on(2 ** 64 - 1),
    STATE, SCORES,
])


class FormTest(unittest.TestCase):
    def test_each_answer_has_its_count_before_it(self):
        row = joined([STATE, begin(levels=[1, 2]), COIN, START, SCORES, step(7), STATE, points(3)])
        self.assertEqual(answers(row), [
            1, -10,
            1, 0,
            3, 0, 168, 256,
            4, 0, 169, 172, 257,
            5, 0, 0, 0, 0, 0,
            1, -1,
            11, 0, 0, 0, 1, 1, 0, 0, 0, 0, 100, 0,
            3, 0, 256, 256,
        ])

    def test_a_single_call(self):
        self.assertEqual(answers([3]), [1, -10])
        self.assertEqual(answers([4]), [1, -10])
        self.assertEqual(answers([2, 0, 0, 0]), [1, -10])
        self.assertEqual(answers([1, 1, 1, 0, 1, 0, 0, 0]), [1, 0])
        self.assertEqual(answers([1, 0, 0, 0, 0, 0, 0, 0]), [1, -1])

    def test_levels_are_no_calls(self):
        # The row's numbers look like calls; what stands behind it must be read as the next call.
        for many in range(11):
            row = [1, 1, 1, 0, 1, 0, 0, many] + [3, 4, 5, 6, 4, 4, 4, 4, 4, 4][:many]
            first = 0 if many <= 4 else -1
            self.assertEqual(answers(row + [2, 0, 0, 0]), [1, first] + ([3, 0, 168, 256] if first == 0 else [1, -10]))

    def test_whole_numbers_alone(self):
        given = answers(GAME)
        self.assertIs(type(given), list)
        for number in given:
            self.assertIs(type(number), int)


class LeftAloneTest(unittest.TestCase):
    def test_what_is_handed_in_is_the_same_afterwards(self):
        row = list(GAME)
        answers(row)
        self.assertEqual(row, GAME)

    def test_what_is_handed_in_is_not_changed_for_a_while_either(self):
        class Watched(list):
            def refuse(self, *args, **kwargs):
                raise AssertionError("the list was changed")
            append = extend = insert = pop = remove = clear = sort = reverse = refuse
            __setitem__ = __delitem__ = __iadd__ = __imul__ = refuse
        self.assertEqual(answers(Watched(GAME)), answers(GAME))

    def test_two_times_the_same(self):
        first = answers(GAME)
        copy = list(first)
        self.assertEqual(answers(GAME), first)
        first.append(99)
        self.assertEqual(answers(GAME), copy)

    def test_nothing_is_kept_from_one_time_to_the_next(self):
        answers(joined([begin(), COIN, START, points(5)]))
        self.assertEqual(answers([3, 4]), [1, -10, 1, -10])
        self.assertEqual(ask(begin(), STATE, SCORES), [[0], [0] * 11, [0] * 5])

    def test_it_prints_reads_and_imports_nothing(self):
        def refuse(*args, **kwargs):
            raise AssertionError("something was opened or imported")
        out, err = io.StringIO(), io.StringIO()
        modules = set(sys.modules)
        with contextlib.redirect_stdout(out), contextlib.redirect_stderr(err):
            with mock.patch("builtins.open", refuse), mock.patch("builtins.input", refuse), \
                    mock.patch("builtins.__import__", refuse):
                answers(list(GAME))
        self.assertEqual((out.getvalue(), err.getvalue()), ("", ""))
        self.assertEqual(set(sys.modules), modules)


class LengthTest(unittest.TestCase):
    def test_as_many_calls_as_may_be(self):
        row = joined([begin(coins=1)] + [COIN] * 1999)
        given = answers(row)
        self.assertEqual(given, [1, 0] + [3, 0, 168, 256] * 1999)

    def test_a_row_of_nearly_16000_numbers(self):
        row = joined([begin()] * 2000)
        self.assertEqual(len(row), 16000)
        self.assertEqual(answers(row), [1, 0] * 2000)

    def test_begins_with_ten_levels(self):
        row = joined([begin(levels=[2 ** 64 - 1] * 10)] * 888)
        self.assertEqual(answers(row), [1, -1] * 888)

    def test_a_long_row_needs_no_deep_calls(self):
        row = joined([begin(ticks=0, balls=9)] + [COIN, START, LOST, on(1)] * 490)
        depth = 0
        frame = sys._getframe()
        while frame is not None:
            depth += 1
            frame = frame.f_back
        limit = sys.getrecursionlimit()
        sys.setrecursionlimit(depth + 30)
        try:
            given = answers(row)
        finally:
            sys.setrecursionlimit(limit)
        self.assertEqual(given[:2], [1, 0])


if __name__ == "__main__":
    unittest.main()
