"""follows: by hand, then over many logs."""

import itertools
import unittest

import by_the_words
import many_logs
from lines import BEGINS, FOLLOWS, ask, drop, row, rows


def follows(*log):
    return ask(*rows(log), FOLLOWS)[-1]


class WithoutSteps(unittest.TestCase):
    def test_no_rows(self):
        self.assertEqual(follows(), [0])

    def test_only_empty_rows(self):
        self.assertEqual(follows(()), [0])
        self.assertEqual(follows(*[()] * 8), [0])


class OneStep(unittest.TestCase):
    def test_alone(self):
        for step in range(6):
            self.assertEqual(follows((step,)), [1, step, 0])

    def test_right_behind_itself(self):
        self.assertEqual(follows((2, 2)), [1, 2, 1, 2])
        self.assertEqual(follows((5,) * 8), [1, 5, 1, 5])

    def test_right_behind_itself_in_one_row_alone(self):
        self.assertEqual(follows((3,), (3, 3)), [1, 3, 1, 3])

    def test_in_two_rows_is_not_right_behind_itself(self):
        self.assertEqual(follows((4,), (4,)), [1, 4, 0])


class SeveralSteps(unittest.TestCase):
    def test_steps_rise_and_the_last_has_none_behind_it(self):
        self.assertEqual(follows((3, 1, 2)), [3, 1, 1, 2, 2, 0, 3, 1, 1])

    def test_no_step_has_one_behind_it(self):
        self.assertEqual(follows((5,), (0,), (3,)), [3, 0, 0, 3, 0, 5, 0])

    def test_those_right_behind_rise(self):
        self.assertEqual(follows((5, 3), (5, 0), (5, 5, 1)), [4, 0, 0, 1, 0, 3, 0, 5, 4, 0, 1, 3, 5])

    def test_right_behind_is_next_behind_not_later(self):
        self.assertEqual(follows((0, 1, 2, 3)), [4, 0, 1, 1, 1, 1, 2, 2, 1, 3, 3, 0])

    def test_both_ways(self):
        self.assertEqual(follows((0, 1, 0)), [2, 0, 1, 1, 1, 1, 0])

    def test_somewhere_in_any_row(self):
        self.assertEqual(follows((0, 1), (2, 0), (0, 2, 4)), [4, 0, 2, 1, 2, 1, 0, 2, 2, 0, 4, 4, 0])

    def test_the_end_of_a_row_has_not_the_next_row_behind_it(self):
        self.assertEqual(follows((0, 1), (2, 3)), [4, 0, 1, 1, 1, 0, 2, 1, 3, 3, 0])

    def test_each_behind_each(self):
        log = [
            (0, 0, 1, 0, 2, 0, 3, 0), (4, 0, 5, 0, 4), (1, 1, 2, 1, 3, 1, 4, 1), (5, 1, 5, 0),
            (2, 2, 3, 2, 4, 2, 5, 2), (3, 3, 4, 3, 5, 3), (4, 4, 5, 4), (5, 5, 0, 4)]
        expected = [6]
        for step in range(6):
            expected += [step, 6, 0, 1, 2, 3, 4, 5]
        self.assertEqual(follows(*log), expected)


class RowsThatChangeNothing(unittest.TestCase):
    LOG = [(3, 1), (1, 1, 4), (0,)]
    ANSWER = [4, 0, 0, 1, 2, 1, 4, 3, 1, 1, 4, 0]

    def test_a_row_twice(self):
        self.assertEqual(follows(*self.LOG), self.ANSWER)
        self.assertEqual(follows(*self.LOG, *self.LOG), self.ANSWER)

    def test_empty_rows(self):
        self.assertEqual(follows((), *self.LOG, ()), self.ANSWER)
        self.assertEqual(follows(self.LOG[0], (), *self.LOG[1:]), self.ANSWER)

    def test_order_of_rows(self):
        for mixed in itertools.permutations(self.LOG):
            self.assertEqual(follows(*mixed), self.ANSWER)


class Asking(unittest.TestCase):
    def test_of_the_log_that_is_there(self):
        self.assertEqual(
            ask(FOLLOWS, row(0, 1), FOLLOWS, FOLLOWS, row(1, 0), FOLLOWS, drop(0), FOLLOWS, BEGINS, FOLLOWS),
            [[0], [0], [2, 0, 1, 1, 1, 0], [2, 0, 1, 1, 1, 0], [1], [2, 0, 1, 1, 1, 1, 0], [1], [2, 0, 0, 1, 1, 0],
             [0], [0]])


class ManyLogs(unittest.TestCase):
    def check(self, logs):
        for log in logs:
            self.assertEqual(follows(*log), by_the_words.follows(log), log)

    def test_all_small_logs(self):
        self.check(many_logs.all_logs(steps=3, longest=3, most=2))

    def test_logs_of_any_rows(self):
        self.check(many_logs.logs_of_any_rows(3000))

    def test_logs_of_cases_of_a_process(self):
        self.check(many_logs.logs_of_cases(3000))


if __name__ == "__main__":
    unittest.main()
