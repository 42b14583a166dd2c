"""cuts: by hand, then over many logs."""

import itertools
import unittest

import by_the_words
import many_logs
from lines import BEGINS, CUTS, ask, drop, row, rows


def cuts(*log):
    return ask(*rows(log), CUTS)[-1]


def written(several, in_a_row, side, body):
    """The answer whose groups and body these are."""
    numbers = [0]
    for groups in (several, in_a_row, side):
        numbers.append(len(groups))
        for group in groups:
            numbers += [len(group)] + group
    return numbers + [len(body)] + body


class WithoutSteps(unittest.TestCase):
    ANSWER = [0, 0, 0, 1, 0, 0]

    def test_no_rows(self):
        self.assertEqual(cuts(), self.ANSWER)

    def test_only_empty_rows(self):
        self.assertEqual(cuts(()), self.ANSWER)
        self.assertEqual(cuts(*[()] * 8), self.ANSWER)


class OneStep(unittest.TestCase):
    def test_once_in_its_row(self):
        for step in range(6):
            self.assertEqual(cuts((step,)), [0, 1, 1, step, 1, 1, step, 1, 1, step, 1, step])

    def test_several_times_in_its_row(self):
        self.assertEqual(cuts((3, 3)), [0, 1, 1, 3, 1, 1, 3, 1, 1, 3, 1, 3])
        self.assertEqual(cuts((5,) * 8), [0, 1, 1, 5, 1, 1, 5, 1, 1, 5, 1, 5])

    def test_beside_empty_rows(self):
        self.assertEqual(cuts((), (2,), (2, 2), ()), [0, 1, 1, 2, 1, 1, 2, 1, 1, 2, 1, 2])


class OneOfSeveral(unittest.TestCase):
    def test_two(self):
        self.assertEqual(cuts((1,), (0,)), [0, 2, 1, 0, 1, 1, 1, 2, 0, 1, 1, 2, 0, 1, 2, 0, 1])

    def test_steps_of_a_group_rise_and_groups_go_by_their_lowest(self):
        # 0 and 3 lie in one group by 5 alone. None of these groups leads to
        # another, so in a row and side by side all is one group.
        every = [0, 1, 2, 3, 4, 5]
        self.assertEqual(cuts((4, 1), (3, 5), (2,), (0, 5)),
                         written([[0, 3, 5], [1, 4], [2]], [every], [every], every))

    def test_the_other_cuts_are_of_the_whole_log(self):
        # 0 and 1 come in any order, but 2 has neither right behind it nor
        # is right behind one: not each is behind the other, so all hang together.
        self.assertEqual(cuts((0, 1), (1, 0), (2,)),
                         written([[0, 1], [2]], [[0, 1, 2]], [[0, 1, 2]], [0, 1, 2]))


class InARow(unittest.TestCase):
    def test_groups_stand_as_they_lead(self):
        self.assertEqual(cuts((3, 1, 2)), written([[1, 2, 3]], [[3], [1], [2]], [[1, 2, 3]], [1, 2, 3]))

    def test_all_six_backwards(self):
        every = [0, 1, 2, 3, 4, 5]
        self.assertEqual(cuts((5, 4, 3, 2, 1, 0)), written([every], [[5], [4], [3], [2], [1], [0]], [every], every))

    def test_neither_leads_to_the_other(self):
        self.assertEqual(cuts((4, 2), (4, 1)), written([[1, 2, 4]], [[4], [1, 2]], [[1, 2, 4]], [1, 2, 4]))

    def test_both_lead_to_each_other(self):
        self.assertEqual(cuts((2, 1, 3, 1, 0)), written([[0, 1, 2, 3]], [[2], [1, 3], [0]], [[0, 1, 2, 3]],
                                                        [0, 1, 2, 3]))

    def test_steps_of_one_group_that_lead_one_way(self):
        # 1 leads to 0; 2 leads to neither nor they to it: one group ahead of 3.
        self.assertEqual(cuts((1, 0, 3), (2, 3)), written([[0, 1, 2, 3]], [[0, 1, 2], [3]], [[0, 1, 2, 3]],
                                                          [0, 1, 2, 3]))

    def test_a_step_that_leads_to_itself_keeps_its_place(self):
        self.assertEqual(cuts((1, 1, 0)), written([[0, 1]], [[1], [0]], [[0, 1]], [0, 1]))
        self.assertEqual(cuts((1, 0, 0)), written([[0, 1]], [[1], [0]], [[0, 1]], [0, 1]))


class SideBySide(unittest.TestCase):
    def test_two(self):
        self.assertEqual(cuts((0, 1), (1, 0)), written([[0, 1]], [[0, 1]], [[0], [1]], [0, 1]))

    def test_all_full(self):
        log = list(itertools.permutations((5, 0, 2)))
        self.assertEqual(cuts(*log), written([[0, 2, 5]], [[0, 2, 5]], [[0], [2], [5]], [0, 2, 5]))

    def test_groups_of_several_steps(self):
        every = [0, 1, 2, 3]
        self.assertEqual(cuts((3, 1, 2, 0), (2, 0, 3, 1), (3, 2, 1, 0), (2, 3, 0, 1)),
                         written([every], [every], [[0, 2], [1, 3]], every))

    def test_a_group_that_is_not_full_goes_to_the_first(self):
        self.assertEqual(cuts((0, 2, 1), (1, 2, 0), (0, 1), (1, 0)),
                         written([[0, 1, 2]], [[0, 1, 2]], [[0, 2], [1]], [0, 1]))

    def test_a_group_that_is_not_full_and_lower_than_the_full_ones(self):
        self.assertEqual(cuts((1, 0, 2), (2, 0, 1), (1, 2), (2, 1)),
                         written([[0, 1, 2]], [[0, 1, 2]], [[0, 1], [2]], [1, 2]))

    def test_a_start_alone_does_not_make_a_group_full(self):
        self.assertEqual(cuts((0, 1, 2), (1, 0, 2), (2, 0, 1), (2, 1), (1, 2)),
                         written([[0, 1, 2]], [[0, 1, 2]], [[0, 1], [2]], [0, 1, 2]))

    def test_a_stop_alone_does_not_make_a_group_full(self):
        self.assertEqual(cuts((2, 1, 0), (2, 0, 1), (1, 0, 2), (1, 2), (2, 1)),
                         written([[0, 1, 2]], [[0, 1, 2]], [[0, 1], [2]], [0, 1, 2]))

    def test_several_groups_that_are_not_full(self):
        # 1 and 3 are full; 0 and 2 stand in the middle of rows alone.
        self.assertEqual(cuts((1, 0, 3), (3, 0, 1), (1, 2, 3), (3, 2, 1), (1, 3, 1), (3, 1, 3), (1, 0, 2, 0, 1)),
                         written([[0, 1, 2, 3]], [[0, 1, 2, 3]], [[0, 1, 2], [3]], [1, 3]))

    def test_one_full_group_takes_all(self):
        self.assertEqual(cuts((0, 1, 0)), written([[0, 1]], [[0, 1]], [[0, 1]], [0]))

    def test_none_is_full(self):
        self.assertEqual(cuts((0, 1, 0, 1)), written([[0, 1]], [[0, 1]], [[0, 1]], [0, 1]))


class Rounds(unittest.TestCase):
    def test_a_step_between(self):
        self.assertEqual(cuts((3, 1, 3)), written([[1, 3]], [[1, 3]], [[1, 3]], [3]))

    def test_a_group_between_and_one_that_is_not(self):
        # 1 is behind the stop 4 and ahead of the start 0; 2 is behind 0, which is no stop.
        every = [0, 1, 2, 4]
        self.assertEqual(cuts((0, 4), (0, 2, 4), (0, 4, 1, 0, 4)), written([every], [every], [every], [0, 2, 4]))

    def test_two_groups_between(self):
        # 0 is the start and 4 the stop; 3 and 1 hang together, 2 is by itself.
        every = [0, 1, 2, 3, 4]
        self.assertEqual(cuts((0, 4, 3, 1, 0, 4), (0, 4, 2, 0, 4)), written([every], [every], [every], [0, 4]))

    def test_behind_what_is_no_stop(self):
        # 1 is right behind 0, a start alone; ahead of it too.
        every = [0, 1, 2]
        self.assertEqual(cuts((0, 1, 0, 2, 0, 2)), written([every], [every], [every], every))

    def test_ahead_of_what_is_no_start(self):
        every = [0, 1, 2]
        self.assertEqual(cuts((2, 0, 2, 0, 1, 0)), written([every], [every], [every], every))

    def test_behind_a_stop_but_also_behind_another(self):
        # 1 is right behind the stop 4, and once right behind 0, which is none.
        every = [0, 1, 4]
        self.assertEqual(cuts((0, 4, 1, 0, 4), (0, 1, 0, 4)), written([every], [every], [every], every))

    def test_ahead_of_a_start_but_also_ahead_of_another(self):
        every = [0, 1, 4]
        self.assertEqual(cuts((0, 4, 1, 0, 4), (0, 4, 1, 4)), written([every], [every], [[0, 1, 4]], every))

    def test_a_group_of_two_of_which_each_touches_one_side(self):
        # 1 is right behind the stop, 2 is right ahead of the start, 2 behind 1.
        every = [0, 1, 2]
        self.assertEqual(cuts((0, 1, 2, 0)), written([every], [every], [every], [0]))


class RowsThatChangeNothing(unittest.TestCase):
    LOGS = [
        [(1,), (0,)], [(3, 1, 2)], [(0, 1), (1, 0)], [(0, 2, 1), (1, 2, 0), (0, 1), (1, 0)],
        [(0, 1, 0, 1)], [(0, 4), (0, 2, 4), (0, 4, 1, 0, 4)]]

    def test_empty_rows(self):
        for log in self.LOGS:
            self.assertEqual(cuts((), *log, ()), cuts(*log))
            self.assertEqual(cuts(log[0], (), *log[1:]), cuts(*log))

    def test_a_row_twice(self):
        for log in self.LOGS:
            self.assertEqual(cuts(*log, *log), cuts(*log))

    def test_order_of_rows(self):
        for log in self.LOGS:
            for mixed in itertools.permutations(log):
                self.assertEqual(cuts(*mixed), cuts(*log))


class Asking(unittest.TestCase):
    def test_of_the_log_that_is_there(self):
        given = ask(CUTS, row(0, 1), CUTS, CUTS, row(1, 0), CUTS, drop(0), CUTS, BEGINS, CUTS)
        empty = written([], [], [[]], [])
        first = written([[0, 1]], [[0], [1]], [[0, 1]], [0, 1])
        both = written([[0, 1]], [[0, 1]], [[0], [1]], [0, 1])
        second = written([[0, 1]], [[1], [0]], [[0, 1]], [0, 1])
        self.assertEqual(given, [empty, [0], first, first, [1], both, [1], second, [0], empty])


class ManyLogs(unittest.TestCase):
    def check(self, logs):
        for log in logs:
            self.assertEqual(cuts(*log), by_the_words.cuts(log), log)

    def test_all_small_logs_of_two_steps(self):
        self.check(many_logs.all_logs(steps=2, longest=4, most=3))

    def test_all_small_logs_of_three_steps(self):
        self.check(many_logs.all_logs(steps=3, longest=3, most=2))

    def test_logs_of_any_rows(self):
        self.check(many_logs.logs_of_any_rows(3000))

    def test_logs_of_cases_of_a_process(self):
        self.check(many_logs.logs_of_cases(3000))


if __name__ == "__main__":
    unittest.main()
