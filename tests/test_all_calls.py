"""All seven calls in one list, in many orders."""

import builtins
import collections
import contextlib
import io
import itertools
import random
import sys
import unittest
from unittest import mock

import by_the_words
import many_logs
from foundprocess.logs import answers
from lines import BEGINS, CUTS, FIND, FOLLOWS, Watched, apart, ask, drop, line, row, rows, takes

HIGHEST = 4294967295


def some_steps(source):
    """Steps of a row or of takes: mostly few and right, now and then too many or wrong."""
    if source.randrange(8) == 0:
        return [source.choice([0, 5, 6, HIGHEST]) for place in range(source.randint(1, 20))]
    highest = source.choice([1, 2, 5])
    return [source.randint(0, highest) for place in range(source.randint(0, source.choice([2, 4, 8])))]


def some_call(source):
    name = source.choice("begins row row row row row row row row drop drop find takes takes takes follows cuts".split())
    if name == "begins":
        # Seldom, for else the log would never be full.
        return BEGINS if source.randrange(3) == 0 else FIND
    if name == "row":
        return row(*some_steps(source))
    if name == "drop":
        return drop(source.choice([0, 1, 2, 3, 7, 8, HIGHEST]))
    if name == "takes":
        return takes(*some_steps(source))
    return {"find": FIND, "follows": FOLLOWS, "cuts": CUTS}[name]


def some_lines(count):
    source = random.Random(6)
    return [[some_call(source) for place in range(source.choice([1, 5, 30, 60]))] for unused in range(count)]


class OneLine(unittest.TestCase):
    def test_by_hand(self):
        self.assertEqual(
            ask(FOLLOWS, row(1, 0, 1), FIND, takes(1, 0, 1, 0, 1), takes(0), CUTS, row(6), FOLLOWS, drop(1), takes(7),
                row(), takes(), CUTS, drop(0), FIND, BEGINS, drop(0), takes(1)),
            [[0], [0], [3, 5, 0, 1, 0, 0], [1], [0], [0, 1, 2, 0, 1, 1, 2, 0, 1, 1, 2, 0, 1, 1, 1], [-1],
             [2, 0, 1, 1, 1, 1, 0], [-2], [-1],
             [1], [1], [0, 1, 2, 0, 1, 1, 2, 0, 1, 1, 2, 0, 1, 1, 1], [1], [1, 1], [0], [-2], [0]])

    def test_each_order_of_the_seven(self):
        for order in itertools.permutations([BEGINS, row(1, 0), drop(0), FIND, takes(0, 1), FOLLOWS, CUTS]):
            calls = [row(0, 1)] + list(order)
            self.assertEqual(ask(*calls), by_the_words.answers(calls), order)


class ManyLines(unittest.TestCase):
    def check(self, calls):
        handed = Watched(line(calls))
        given = answers(handed)
        self.assertEqual(apart(given), by_the_words.answers(calls), calls)
        self.assertEqual(list(handed), line(calls))
        self.assertEqual(answers(handed), given, "asked twice")
        self.assertEqual({number.__class__ for number in given}, {int})

    def test_as_by_the_words(self):
        for calls in some_lines(600):
            self.check(calls)

    def test_the_lines_have_all_in_them(self):
        """Each call answered, and each refusal, is there many times, so that the test above is about them."""
        counts = collections.Counter()
        for calls in some_lines(600):
            for call, answer in zip(calls, by_the_words.answers(calls)):
                counts[call[0], min(answer[0], 0)] += 1
                if call[0] == 4:
                    counts["takes", answer[0]] += 1
        asked = [(number, 0) for number in range(7)] + [(1, -1), (1, -7), (2, -2), (4, -1), ("takes", 0), ("takes", 1)]
        self.assertEqual({one: counts[one] for one in asked if counts[one] < 100}, {})

    def test_behind_rows_of_a_process(self):
        source = random.Random(7)
        for log in many_logs.logs_of_cases(300):
            asked = [takes(*many_logs.near(source, steps)) for steps in log]
            calls = rows(log) + [FIND, FOLLOWS, CUTS] + asked + [drop(0), CUTS, FOLLOWS, FIND]
            self.check(calls)

    def test_asked_alone_or_behind_other_lines(self):
        lines = [line(calls) for calls in some_lines(40)]
        alone = [answers(one) for one in lines]
        self.assertEqual([answers(one) for one in reversed(lines)], alone[::-1])


class LongLines(unittest.TestCase):
    ROUNDS = [(0, 1, 0, 3), (0, 3, 2, 0, 1, 0, 3), (4, 4), (5,), ()]

    def test_sixty_calls(self):
        calls = rows(self.ROUNDS) + [FIND, FOLLOWS, CUTS, takes(0, 3, 2, 0, 3, 2, 0, 3), takes(*[4] * 8)] * 11
        self.assertEqual(len(calls), 60)
        given = ask(*calls)
        self.assertEqual(given, by_the_words.answers(calls))
        self.assertEqual(given[5:10] * 11, given[5:])

    def test_sixty_calls_of_twenty_steps(self):
        calls = [row(*[0] * 20), takes(*[HIGHEST] * 20)] * 30
        self.assertEqual(ask(*calls), [[-1]] * 60)


class NothingElse(unittest.TestCase):
    LINE = line([row(0, 1, 0), row(2), row(), FIND, takes(2), takes(6), FOLLOWS, CUTS, drop(0), drop(9), BEGINS, CUTS])

    def test_prints_nothing(self):
        out, err = io.StringIO(), io.StringIO()
        with contextlib.redirect_stdout(out), contextlib.redirect_stderr(err):
            answers(self.LINE)
        self.assertEqual((out.getvalue(), err.getvalue()), ("", ""))

    def test_reads_and_imports_nothing(self):
        expected = answers(self.LINE)
        refused = mock.Mock(side_effect=AssertionError("nothing is read or imported"))
        with mock.patch.object(builtins, "open", refused), mock.patch.object(builtins, "input", refused):
            with mock.patch.object(builtins, "__import__", refused):
                given = answers(self.LINE)
        self.assertEqual(given, expected)

    def test_far_fewer_than_a_thousand_calls_within_one_another(self):
        lines = [line(calls) for calls in some_lines(100)]
        lines += [line(rows(log) + [FIND, takes(*log[0]), CUTS]) for log in many_logs.logs_of_cases(300) if log]
        expected = [answers(one) for one in lines]
        limit = sys.getrecursionlimit()
        sys.setrecursionlimit(frames_now() + 100)
        try:
            given = [answers(one) for one in lines]
        finally:
            sys.setrecursionlimit(limit)
        self.assertEqual(given, expected)


def frames_now():
    frame = sys._getframe()
    count = 0
    while frame is not None:
        frame = frame.f_back
        count += 1
    return count


if __name__ == "__main__":
    unittest.main()
