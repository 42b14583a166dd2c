"""find: each rule of "Found of a log" by hand, then over many logs."""

import itertools
import unittest

import by_the_words
import many_logs
from lines import FIND, ask, drop, found, is_case, parsed, processes_in, row


class Nothing(unittest.TestCase):
    """1."""

    def test_no_rows(self):
        self.assertEqual(found(), [1, 1])

    def test_only_empty_rows(self):
        self.assertEqual(found(()), [1, 1])
        self.assertEqual(found((), (), ()), [1, 1])


class EmptyRow(unittest.TestCase):
    """2."""

    def test_beside_one_step(self):
        self.assertEqual(found((), (0,)), [3, 3, 1, 0, 0])

    def test_wherever_it_stands_and_however_often(self):
        self.assertEqual(found((), (4,), (), (4,), ()), [3, 3, 1, 0, 4])

    def test_beside_several_steps(self):
        self.assertEqual(found((2, 1), ()), [5, 3, 1, 2, 0, 2, 0, 1])


class OneStep(unittest.TestCase):
    """3."""

    def test_once_in_each_row(self):
        for step in range(6):
            self.assertEqual(found((step,)), [1, 0, step])

    def test_the_row_twice(self):
        self.assertEqual(found((2,), (2,)), [1, 0, 2])

    def test_several_times(self):
        self.assertEqual(found((2, 2)), [3, 5, 0, 2, 1])
        self.assertEqual(found((5,) * 8), [3, 5, 0, 5, 1])

    def test_once_in_one_row_and_more_often_in_another(self):
        self.assertEqual(found((2,), (2, 2)), [3, 5, 0, 2, 1])
        self.assertEqual(found((2, 2, 2), (2,)), [3, 5, 0, 2, 1])

    def test_several_times_beside_an_empty_row(self):
        self.assertEqual(found((3, 3), ()), [5, 3, 1, 5, 0, 3, 1])


class OneOfSeveral(unittest.TestCase):
    """4."""

    def test_two(self):
        self.assertEqual(found((1,), (0,)), [3, 3, 0, 0, 0, 1])

    def test_first_against_all_the_others(self):
        self.assertEqual(found((4,), (1,), (3,)), [5, 3, 0, 1, 3, 0, 3, 0, 4])

    def test_all_six(self):
        self.assertEqual(
            found((5,), (4,), (3,), (2,), (1,), (0,)),
            [11, 3, 0, 0, 3, 0, 1, 3, 0, 2, 3, 0, 3, 3, 0, 4, 0, 5])

    def test_groups_go_by_their_lowest_steps(self):
        self.assertEqual(found((3, 1), (2,), (5, 0)), [9, 3, 2, 0, 5, 0, 0, 3, 2, 0, 3, 0, 1, 0, 2])

    def test_groups_join_over_several_steps(self):
        # 0 and 3 are in one group by 5 alone; 1 is by itself.
        self.assertEqual(found((0, 5), (3, 5), (1,)), [7, 3, 2, 3, 0, 0, 0, 3, 0, 5, 0, 1])


class InARow(unittest.TestCase):
    """5."""

    def test_order_of_leading_not_of_numbers(self):
        self.assertEqual(found((3, 1, 2)), [5, 2, 0, 3, 2, 0, 1, 0, 2])

    def test_all_six_backwards(self):
        self.assertEqual(
            found((5, 4, 3, 2, 1, 0)), [11, 2, 0, 5, 2, 0, 4, 2, 0, 3, 2, 0, 2, 2, 0, 1, 0, 0])

    def test_steps_of_which_neither_leads_to_the_other(self):
        self.assertEqual(found((0, 1), (0, 2)), [5, 2, 0, 0, 3, 0, 1, 0, 2])
        self.assertEqual(found((1, 0), (2, 0)), [5, 2, 3, 0, 1, 0, 2, 0, 0])

    def test_a_row_without_steps_of_a_group(self):
        self.assertEqual(found((0, 1), (0,)), [5, 2, 0, 0, 3, 1, 0, 1])
        self.assertEqual(found((0, 1), (0,), (1,)), [7, 2, 3, 1, 0, 0, 3, 1, 0, 1])

    def test_a_step_that_leads_to_itself_keeps_its_place(self):
        self.assertEqual(found((1, 1, 0)), [5, 2, 5, 0, 1, 1, 0, 0])
        self.assertEqual(found((1, 0, 0)), [5, 2, 0, 1, 5, 0, 0, 1])

    def test_a_group_whose_steps_lead_one_way(self):
        # 1 leads to 0; 2 leads to neither nor they to it: one group ahead of 3.
        self.assertEqual(found((1, 0, 3), (2, 3)), [7, 2, 3, 2, 0, 1, 0, 0, 0, 2, 0, 3])


class SideBySide(unittest.TestCase):
    """6."""

    def test_two(self):
        self.assertEqual(found((0, 1), (1, 0)), [3, 4, 0, 0, 0, 1])

    def test_three(self):
        log = list(itertools.permutations((5, 0, 2)))
        self.assertEqual(found(*log), [5, 4, 0, 0, 4, 0, 2, 0, 5])

    def test_with_steps_that_keep_their_order(self):
        # 0 always comes ahead of 1; 2 comes anywhere.
        self.assertEqual(found((0, 1, 2), (0, 2, 1), (2, 0, 1), (1, 2), (2, 0)),
                         [9, 4, 2, 3, 1, 0, 0, 3, 1, 0, 1, 0, 2])

    def test_a_group_that_is_not_full_goes_to_the_first(self):
        self.assertEqual(found((0, 2, 1), (1, 2, 0), (0, 1), (1, 0)), [7, 4, 4, 0, 0, 3, 1, 0, 2, 0, 1])

    def test_a_group_that_is_not_full_and_lower_than_the_full_ones(self):
        self.assertEqual(found((1, 0, 2), (2, 0, 1), (1, 2), (2, 1)), [7, 4, 4, 3, 1, 0, 0, 0, 1, 0, 2])

    def test_a_start_alone_does_not_make_a_group_full(self):
        # 0 starts a row and stops none, so it goes to 1; 2 stands by itself.
        self.assertEqual(found((0, 1, 2), (1, 0, 2), (2, 0, 1), (2, 1), (1, 2)),
                         [7, 4, 4, 3, 1, 0, 0, 0, 1, 0, 2])

    def test_a_stop_alone_does_not_make_a_group_full(self):
        # The rows of the test above, backwards.
        self.assertEqual(found((2, 1, 0), (2, 0, 1), (1, 0, 2), (1, 2), (2, 1)),
                         [7, 4, 4, 3, 1, 0, 0, 0, 1, 0, 2])

    def test_no_group_is_full(self):
        self.assertEqual(found((0, 1, 0, 1)), [5, 5, 3, 0, 0, 0, 1, 1])

    def test_one_full_group_is_not_several(self):
        self.assertEqual(found((0, 2, 1), (1, 2, 0)), [5, 5, 3, 0, 0, 0, 1, 0, 2])


class Rounds(unittest.TestCase):
    """7."""

    def test_one_step_between(self):
        self.assertEqual(found((0, 1, 0)), [3, 5, 0, 0, 0, 1])
        self.assertEqual(found((3,), (3, 1, 3, 1, 3)), [3, 5, 0, 3, 0, 1])

    def test_several_groups_between(self):
        self.assertEqual(found((0, 1, 2, 0), (0, 3, 0), (0,)), [7, 5, 0, 0, 3, 2, 0, 1, 0, 2, 0, 3])

    def test_body_comes_again_by_itself(self):
        self.assertEqual(found((0, 1, 0, 0)), [5, 5, 5, 0, 0, 1, 0, 1])

    def test_second_comes_several_times(self):
        self.assertEqual(found((0, 1, 1, 0)), [5, 5, 0, 0, 5, 0, 1, 1])

    def test_a_group_that_is_not_between_belongs_to_the_body(self):
        self.assertEqual(found((0, 1, 3, 2, 0, 1, 3)), [7, 5, 2, 0, 0, 2, 0, 1, 0, 3, 0, 2])

    def test_not_between_when_behind_what_is_no_stop(self):
        self.assertEqual(found((0, 1, 0, 2, 0, 2)), [7, 5, 3, 0, 0, 3, 0, 1, 0, 2, 1])

    def test_not_between_when_ahead_of_what_is_no_start(self):
        self.assertEqual(found((2, 0, 2, 0, 1, 0)), [7, 5, 3, 0, 0, 3, 0, 1, 0, 2, 1])

    def test_body_with_a_step_that_may_be_left_out(self):
        self.assertEqual(found((0,), (0, 1), (0, 2, 0, 1, 2, 0)), [7, 5, 2, 0, 0, 3, 1, 0, 1, 0, 2])

    def test_body_side_by_side_with_a_step_that_may_be_left_out(self):
        self.assertEqual(found((0,), (0, 1), (1, 0), (0, 1, 2, 0)), [7, 5, 4, 0, 0, 3, 1, 0, 1, 0, 2])

    def test_rounds_within_rounds(self):
        # 0 comes again over 1, and all of that comes again over 2.
        self.assertEqual(found((0, 1, 0, 3), (0, 3, 2, 0, 1, 0, 3)), [7, 5, 2, 5, 0, 0, 0, 1, 0, 3, 0, 2])


class AnyOrder(unittest.TestCase):
    """8."""

    def test_no_step_is_between(self):
        self.assertEqual(found((0, 1, 2, 0, 1, 2)), [7, 5, 3, 0, 0, 3, 0, 1, 0, 2, 1])

    def test_steps_go_by_their_order(self):
        self.assertEqual(found((5, 1, 3, 5, 1, 3)), [7, 5, 3, 0, 1, 3, 0, 3, 0, 5, 1])

    def test_body_in_a_row_would_have_the_empty_row(self):
        self.assertEqual(found((0,), (1,), (0, 1, 2, 0, 2, 1)), [7, 5, 3, 0, 0, 3, 0, 1, 0, 2, 1])

    def test_body_one_of_two_would_have_the_empty_row(self):
        self.assertEqual(found((0,), (1,), (0, 1), (2,), (0, 3, 1, 3, 2, 3, 0)),
                         [9, 5, 3, 0, 0, 3, 0, 1, 3, 0, 2, 0, 3, 1])

    def test_body_side_by_side_would_have_the_empty_row(self):
        self.assertEqual(found((0,), (1,), (0, 1), (1, 0), (0, 2, 1)), [7, 5, 3, 0, 0, 3, 0, 1, 0, 2, 1])


class OneWithinAnother(unittest.TestCase):
    def test_all_rules_but_the_last(self):
        self.assertEqual(
            found((), (0, 1), (1, 0), (2, 3), (2,), (4, 5, 4)),
            [15, 3, 1, 3, 4, 0, 0, 0, 1, 3, 2, 0, 2, 3, 1, 0, 3, 5, 0, 4, 0, 5])

    def test_any_order_within_in_a_row(self):
        self.assertEqual(found((5, 0, 1, 0, 1, 4), (5, 4)), [11, 2, 0, 5, 2, 3, 1, 5, 3, 0, 0, 0, 1, 1, 0, 4])

    def test_side_by_side_within_rounds(self):
        self.assertEqual(found((3,), (3, 0, 1, 3, 1, 0, 3)), [5, 5, 0, 3, 4, 0, 0, 0, 1])


class Asking(unittest.TestCase):
    def test_find_changes_nothing(self):
        self.assertEqual(ask(row(0, 1), FIND, FIND, row(1, 0), FIND, FIND, drop(0), FIND), [
            [0], [3, 2, 0, 0, 0, 1], [3, 2, 0, 0, 0, 1],
            [1], [3, 4, 0, 0, 0, 1], [3, 4, 0, 0, 0, 1],
            [1], [3, 2, 0, 1, 0, 0]])

    def test_order_of_rows_and_rows_twice_do_not_matter(self):
        log = [(0, 1), (), (2, 0, 2), (1, 3)]
        expected = found(*log)
        for mixed in itertools.permutations(log):
            self.assertEqual(found(*mixed), expected)
            self.assertEqual(found(*mixed, *mixed), expected)


class ManyLogs(unittest.TestCase):
    def check(self, log):
        given = found(*log)
        process = parsed(given[1:])
        inside = processes_in(process)
        with self.subTest(log=log):
            self.assertEqual(given[0], len(inside))
            self.assertEqual(sorted(p[1] for p in inside if p[0] == 0), by_the_words.steps_of(log))
            for steps in log:
                self.assertTrue(is_case(process, steps), steps)
            for p in inside:
                self.assertFalse(p[0] == 5 and is_case(p[1], ()), "rounds of what may be empty")
            self.assertEqual(given[1:], by_the_words.numbers(by_the_words.find(log)))

    def test_all_small_logs_of_two_steps(self):
        for log in many_logs.all_logs(steps=2, longest=4, most=3):
            self.check(log)

    def test_all_small_logs_of_three_steps(self):
        for log in many_logs.all_logs(steps=3, longest=3, most=3):
            self.check(log)

    def test_logs_of_any_rows(self):
        for log in many_logs.logs_of_any_rows(3000):
            self.check(log)

    def test_logs_of_cases_of_a_process(self):
        for log in many_logs.logs_of_cases(5000):
            self.check(log)


if __name__ == "__main__":
    unittest.main()
