"""takes: each kind of process by hand, then over many logs."""

import itertools
import random
import unittest

import by_the_words
import many_logs
from lines import FIND, ask, drop, found, is_case, parsed, row, rows, taken, takes

HIGHEST = 4294967295


class Takes(unittest.TestCase):
    def check(self, log, process, cases, others):
        """The log's process, in numbers, so that a test says what it is about; then what takes answers."""
        self.assertEqual(found(*log)[1:], process)
        for steps in list(log) + cases:
            with self.subTest(case=steps):
                self.assertEqual(taken(log, [steps]), [1])
        for steps in others:
            with self.subTest(other=steps):
                self.assertEqual(taken(log, [steps]), [0])


class Nothing(Takes):
    def test_no_rows(self):
        self.check([], [1], [()], [(0,), (5,), (0, 0), (0, 1, 2, 3, 4, 5, 0, 1)])

    def test_only_empty_rows(self):
        self.check([(), ()], [1], [()], [(0,), (5,), (3, 3)])

    def test_rows_that_are_no_longer_there(self):
        self.assertEqual(ask(row(2), drop(0), takes(2), takes())[2:], [[0], [1]])


class OneStep(Takes):
    def test_step(self):
        for step in range(6):
            other = (step + 1) % 6
            self.check([(step,)], [0, step], [], [(), (other,), (step, step), (step, other), (other, step)])

    def test_step_or_nothing(self):
        self.check([(), (4,)], [3, 1, 0, 4], [], [(4, 4), (0,), (5,)])


class InARow(Takes):
    def test_three(self):
        self.check([(3, 1, 2)], [2, 0, 3, 2, 0, 1, 0, 2], [], [
            (), (3,), (2,), (3, 1), (1, 2), (3, 2), (3, 2, 1), (1, 3, 2), (2, 1, 3), (3, 1, 1, 2), (3, 1, 2, 2),
            (3, 1, 2, 3, 1, 2), (3, 1, 2, 0), (0, 3, 1, 2), (3, 0, 1, 2)])

    def test_steps_that_may_be_left_out(self):
        self.check([(0, 1), (0,), (1,)], [2, 3, 1, 0, 0, 3, 1, 0, 1], [()], [(1, 0), (0, 0), (0, 1, 1), (2,)])

    def test_rounds_in_a_row(self):
        self.check([(1, 1, 0, 0)], [2, 5, 0, 1, 1, 5, 0, 0, 1],
                   [(1, 0), (1, 1, 0), (1, 0, 0), (1, 1, 1, 1, 1, 0, 0, 0)],
                   [(), (1,), (0,), (1, 1), (0, 1), (1, 0, 1), (1, 0, 1, 0), (0, 1, 1, 0)])


class OneOfTwo(Takes):
    def test_two(self):
        self.check([(0,), (1,)], [3, 0, 0, 0, 1], [], [(), (0, 1), (1, 0), (0, 0), (1, 1), (2,)])

    def test_rows(self):
        self.check([(0, 5), (3, 2), (4,)], [3, 2, 0, 0, 0, 5, 3, 2, 0, 3, 0, 2, 0, 4], [], [
            (), (0,), (5,), (3,), (2,), (5, 0), (0, 2), (3, 5), (4, 4), (0, 5, 4), (0, 5, 3, 2)])


class EmptyRow(Takes):
    def test_one_of_two_has_nothing(self):
        self.check([(), (2, 1)], [3, 1, 2, 0, 2, 0, 1], [], [(2,), (1,), (1, 2), (2, 1, 2, 1)])

    def test_a_case_that_the_log_has_not(self):
        self.assertEqual(taken([(0, 1), (0,), (1,)], [()]), [1])

    def test_no_case(self):
        for log in ([(0,)], [(0, 0)], [(0, 1)], [(0,), (1,)], [(0, 1), (1, 0)], [(0, 1, 0)], [(0, 1, 0, 1)]):
            self.assertEqual(taken(log, [()]), [0], log)


class SideBySide(Takes):
    def test_two(self):
        self.check([(0, 1), (1, 0)], [4, 0, 0, 0, 1], [], [
            (), (0,), (1,), (0, 0), (0, 1, 0), (0, 0, 1), (0, 1, 0, 1), (0, 1, 2), (2, 0, 1)])

    def test_three_in_each_order(self):
        log = list(itertools.permutations((5, 0, 2)))[:5]
        left_out = (2, 0, 5)
        self.assertNotIn(left_out, log)
        self.check(log, [4, 0, 0, 4, 0, 2, 0, 5], [left_out], [(5, 0), (0, 2, 2), (5, 0, 2, 5), (5, 1, 2)])

    def test_two_rows_put_into_one_another(self):
        # 0 ahead of 1 and 2 ahead of 3, whatever stands between.
        log = [(0, 1, 2, 3), (2, 3, 0, 1), (0, 2, 1, 3), (2, 0, 3, 1), (0, 2, 3, 1), (2, 0, 1, 3)]
        broken = [steps for steps in itertools.permutations(range(4)) if steps not in log]
        self.assertEqual(len(broken), 18)
        self.check(log, [4, 2, 0, 0, 0, 1, 2, 0, 2, 0, 3], [], broken + [(), (0, 1), (2, 3), (0, 2, 1), (0, 2, 3)])

    def test_two_rows_put_into_one_another_as_in_no_row_of_the_log(self):
        log = [(0, 1, 2, 3), (2, 3, 0, 1), (0, 2, 1, 3), (2, 0, 3, 1)]
        self.check(log, [4, 2, 0, 0, 0, 1, 2, 0, 2, 0, 3], [(0, 2, 3, 1), (2, 0, 1, 3)], [(3, 0, 2, 1), (0, 1, 3, 2)])

    def test_with_steps_that_may_be_left_out(self):
        self.check([(0, 1, 2), (0, 2, 1), (2, 0, 1), (1, 2), (2, 0)], [4, 2, 3, 1, 0, 0, 3, 1, 0, 1, 0, 2],
                   [(2,), (0, 2), (2, 1)],
                   [(), (0,), (1,), (0, 1), (1, 0, 2), (1, 2, 0), (2, 1, 0), (2, 2), (0, 2, 2)])

    def test_with_rounds(self):
        self.check([(0, 0, 1), (1, 0, 0)], [4, 5, 0, 0, 1, 0, 1],
                   [(0, 1), (1, 0), (0, 1, 0), (0, 0, 0, 1, 0, 0, 0, 0)],
                   [(), (0,), (1,), (0, 0), (0, 1, 1), (1, 0, 1), (0, 1, 0, 1)])


class Rounds(Takes):
    def test_one_step(self):
        self.check([(2, 2)], [5, 0, 2, 1], [(2,), (2, 2, 2), (2,) * 8], [(), (3,), (2, 3), (3, 2), (2, 3, 2)])

    def test_with_something_between(self):
        self.check([(0, 1, 0)], [5, 0, 0, 0, 1],
                   [(0,), (0, 1, 0, 1, 0), (0, 1, 0, 1, 0, 1, 0)],
                   [(), (1,), (0, 0), (0, 1), (1, 0), (1, 0, 1), (0, 1, 1, 0), (0, 0, 1, 0), (0, 1, 0, 0),
                    (0, 1, 0, 1), (0, 1, 0, 1, 0, 0), (0, 2, 0)])

    def test_with_something_between_that_may_be_left_out(self):
        # Between two 0 stands 1, or 2, or both, or nothing, which no row of the log has.
        self.check([(0, 1, 0), (0, 2, 0), (0, 1, 2, 0)], [5, 0, 0, 2, 3, 1, 0, 1, 3, 1, 0, 2],
                   [(0,), (0, 0), (0, 0, 0), (0, 1, 0, 0), (0, 0, 2, 0), (0, 1, 0, 2, 0, 1, 2, 0)],
                   [(), (0, 2, 1, 0), (0, 1), (2, 0), (0, 1, 1, 0), (1, 0, 0), (0, 0, 1)])

    def test_of_a_row(self):
        self.check([(0, 4), (0, 4, 1, 0, 4)], [5, 2, 0, 0, 0, 4, 0, 1],
                   [(0, 4, 1, 0, 4, 1, 0, 4)],
                   [(), (0,), (4,), (0, 4, 0, 4), (0, 4, 1), (1, 0, 4), (0, 1, 4), (4, 0), (0, 4, 1, 4, 0),
                    (0, 4, 1, 1, 0, 4), (0, 4, 1, 0)])

    def test_of_a_row_with_a_step_that_may_be_left_out(self):
        self.check([(0,), (0, 1), (0, 2, 0, 1, 2, 0)], [5, 2, 0, 0, 3, 1, 0, 1, 0, 2],
                   [(0, 2, 0), (0, 1, 2, 0, 1), (0, 1, 2, 0, 2, 0, 1)],
                   [(), (1,), (0, 0), (0, 1, 0, 1), (1, 2, 0), (0, 2, 1), (0, 1, 1), (0, 2, 2, 0)])

    def test_within_rounds(self):
        self.check([(0, 1, 0, 3), (0, 3, 2, 0, 1, 0, 3)], [5, 2, 5, 0, 0, 0, 1, 0, 3, 0, 2],
                   [(0, 3), (0, 1, 0, 1, 0, 3), (0, 3, 2, 0, 3), (0, 3, 2, 0, 3, 2, 0, 3), (0, 1, 0, 3, 2, 0, 3)],
                   [(), (0,), (3,), (0, 0, 3), (0, 3, 0, 3), (0, 3, 2), (0, 1, 3), (0, 2, 0, 3), (0, 1, 0, 2, 0, 3)])

    def test_side_by_side_between(self):
        self.check([(3,), (3, 0, 1, 3, 1, 0, 3)], [5, 0, 3, 4, 0, 0, 0, 1],
                   [(3, 0, 1, 3), (3, 1, 0, 3), (3, 1, 0, 3, 1, 0, 3)],
                   [(), (3, 3), (3, 0, 3), (3, 1, 3), (0, 1), (3, 0, 1), (3, 0, 1, 0, 3), (3, 0, 3, 1, 3)])

    def test_any_order(self):
        every = [steps for length in range(1, 5) for steps in itertools.product(range(3), repeat=length)]
        self.check([(0, 1, 2, 0, 1, 2)], [5, 3, 0, 0, 3, 0, 1, 0, 2, 1], every + [(2, 1, 0, 2, 1, 0, 2, 1)],
                   [(), (3,), (0, 3), (3, 0), (0, 1, 5, 2)])


class AllRules(Takes):
    def test_one_within_another(self):
        self.check([(), (0, 1), (1, 0), (2, 3), (2,), (4, 5, 4)],
                   [3, 1, 3, 4, 0, 0, 0, 1, 3, 2, 0, 2, 3, 1, 0, 3, 5, 0, 4, 0, 5],
                   [(4,), (4, 5, 4, 5, 4)],
                   [(0,), (1,), (3,), (5,), (3, 2), (2, 3, 3), (4, 4), (4, 5), (0, 1, 2), (2, 4), (0, 3), (0, 1, 0)])

    def test_steps_that_the_log_has_not(self):
        for log in ([(0,)], [(0, 0)], [(0, 1)], [(0,), (1,)], [(0, 1), (1, 0)], [(0, 1, 0)], [(0, 1, 0, 1)]):
            for steps in log:
                for place in range(len(steps) + 1):
                    with_another = steps[:place] + (4,) + steps[place:]
                    self.assertEqual(taken(log, [with_another, (4,)]), [0, 0], (log, with_another))


class Refusals(unittest.TestCase):
    def test_eight_steps_are_answered(self):
        self.assertEqual(ask(row(5, 5), takes(*[5] * 8), takes(*[4] * 8), row(0)), [[0], [1], [0], [1]])

    def test_more_than_eight_steps(self):
        # Each would be a case if it weren't too long.
        self.assertEqual(ask(row(5, 5), takes(*[5] * 9), takes(*[5] * 20))[1:], [[-1], [-1]])

    def test_a_step_that_there_is_not(self):
        self.assertEqual(ask(takes(5), takes(6), takes(HIGHEST)), [[0], [-1], [-1]])

    def test_a_step_that_there_is_not_wherever_it_stands(self):
        self.assertEqual(ask(takes(6, 0, 1), takes(0, 6, 1), takes(0, 1, 6), takes(0, 1)), [[-1], [-1], [-1], [0]])

    def test_both_wrong(self):
        self.assertEqual(ask(takes(*[6] * 9), takes(*[HIGHEST] * 20)), [[-1], [-1]])

    def test_a_full_log_is_no_reason(self):
        log = [(0,), (1,), (2,), (3,), (4,), (5,), (0,), (1,)]
        self.assertEqual(taken(log, [(5,), (0, 1), (6,)]), [1, 0, -1])


class LogAsItWas(unittest.TestCase):
    def test_behind_takes(self):
        behind = [FIND, row(2), FIND, drop(0), FIND]
        for log in ([], [()], [(0, 1)], [(0, 1), (1, 0), (5,)], [(0, 1, 0, 1)]):
            expected = ask(*rows(log), *behind)[len(log):]
            for steps in ((), (0, 1), (1, 0), (4,), (6,), (0,) * 9):
                given = ask(*rows(log), takes(*steps), *behind)[len(log) + 1:]
                self.assertEqual(given, expected, (log, steps))

    def test_asked_again_the_same_is_answered(self):
        asked = [takes(0, 1), takes(1, 0), takes(0, 1), takes(6), takes(1, 0), takes(0, 1)]
        self.assertEqual(ask(row(0, 1), *asked)[1:], [[1], [0], [1], [-1], [0], [1]])

    def test_answers_of_the_log_that_is_there(self):
        self.assertEqual(
            ask(takes(0, 1), row(0, 1), takes(0, 1), takes(1, 0), row(1, 0), takes(1, 0), drop(0), takes(0, 1)),
            [[0], [0], [1], [0], [1], [1], [1], [0]])


class ManyLogs(unittest.TestCase):
    def one_log_for_each_process(self, logs):
        found_of = {}
        for log in logs:
            found_of.setdefault(tuple(found(*log)[1:]), log)
        return found_of

    def check_all_rows(self, logs, steps, longest):
        every = [row for length in range(longest + 1) for row in itertools.product(range(steps), repeat=length)]
        for numbers, log in self.one_log_for_each_process(logs).items():
            cases = by_the_words.cases(parsed(list(numbers)), longest)
            with self.subTest(log=log):
                self.assertEqual(taken(log, every), [int(row in cases) for row in every])

    def test_all_short_rows_for_logs_of_two_steps(self):
        # One step more than the logs have, so that rows with a strange step are among those asked.
        self.check_all_rows(many_logs.all_logs(steps=2, longest=4, most=3), steps=3, longest=5)

    def test_all_short_rows_for_logs_of_three_steps(self):
        self.check_all_rows(many_logs.all_logs(steps=3, longest=3, most=3), steps=3, longest=4)

    def check_some_rows(self, log, source):
        """The log's own rows, cases that it may not have, and rows that are nearly cases."""
        process = parsed(found(*log)[1:])
        drawn = [many_logs.some_case(source, many_logs.named(process)) for count in range(4)]
        near = [many_logs.near(source, steps) for steps in drawn + log]
        asked = [steps for steps in log + drawn + near if len(steps) <= 8]
        expected = [int(is_case(process, steps)) for steps in asked]
        self.assertEqual(expected[:len(log)], [1] * len(log))
        with self.subTest(log=log):
            self.assertEqual(taken(log, asked), expected)
        return expected

    def check_some_rows_of_each(self, logs, source):
        counts = [0, 0]
        for log in logs:
            for number in self.check_some_rows(log, source):
                counts[number] += 1
        self.assertGreater(min(counts), len(logs), "both cases and others are to be asked")

    def test_logs_of_any_rows(self):
        self.check_some_rows_of_each(many_logs.logs_of_any_rows(1500), random.Random(3))

    def test_logs_of_cases_of_a_process(self):
        self.check_some_rows_of_each(many_logs.logs_of_cases(4000), random.Random(4))


if __name__ == "__main__":
    unittest.main()
