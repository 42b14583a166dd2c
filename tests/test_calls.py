"""begins, row and drop; how calls and answers stand in their lists."""

import unittest

from foundprocess.logs import answers
from lines import BEGINS, CUTS, FIND, FOLLOWS, Watched, ask, drop, line, row, rows, takes

HIGHEST = 4294967295
EIGHT_ROWS = [(0,), (1,), (2,), (3,), (4,), (5,), (0, 1), ()]
WRONG_STEPS = [(6,), (HIGHEST,), (0, 1, 6), (0,) * 9, (1,) * 20]


class Begins(unittest.TestCase):
    def test_answers_0_on_a_new_log(self):
        self.assertEqual(ask(BEGINS), [[0]])

    def test_answers_0_behind_rows(self):
        self.assertEqual(ask(row(1), row(2), BEGINS), [[0], [1], [0]])

    def test_next_row_is_row_0(self):
        self.assertEqual(ask(row(1), row(2), BEGINS, row(3), row(4))[2:], [[0], [0], [1]])

    def test_log_is_empty_behind_it(self):
        self.assertEqual(ask(row(1), row(2), BEGINS, FIND, drop(0))[2:], [[0], [1, 1], [-2]])

    def test_makes_place_in_a_full_log(self):
        self.assertEqual(ask(*rows(EIGHT_ROWS), BEGINS, row(5), FIND)[-2:], [[0], [1, 0, 5]])


class Row(unittest.TestCase):
    def test_answers_which_it_is(self):
        self.assertEqual(ask(*rows(EIGHT_ROWS)), [[k] for k in range(8)])

    def test_ninth_row_is_refused(self):
        self.assertEqual(ask(*rows(EIGHT_ROWS), row(0), row(), row(1))[8:], [[-7], [-7], [-7]])

    def test_eight_steps_are_allowed(self):
        self.assertEqual(ask(row(0, 1, 2, 3, 4, 5, 0, 1), row(5)), [[0], [1]])

    def test_more_than_eight_steps_are_refused(self):
        self.assertEqual(ask(row(*[0] * 9), row(*[5] * 20), row(0)), [[-1], [-1], [0]])

    def test_steps_0_and_5_there_are(self):
        self.assertEqual(ask(row(0), row(5)), [[0], [1]])

    def test_a_step_that_there_is_not(self):
        self.assertEqual(ask(row(6), row(HIGHEST)), [[-1], [-1]])

    def test_a_step_that_there_is_not_wherever_it_stands(self):
        self.assertEqual(ask(row(6, 0, 1), row(0, 6, 1), row(0, 1, 6), row(0, 1)), [[-1], [-1], [-1], [0]])

    def test_wrong_steps_are_told_ahead_of_a_full_log(self):
        self.assertEqual(ask(*rows(EIGHT_ROWS), row(6), row(*[0] * 9))[8:], [[-1], [-1]])

    def test_an_empty_row_is_a_row(self):
        self.assertEqual(ask(row(), row(), row(3)), [[0], [1], [2]])

    def test_eight_empty_rows_fill_the_log(self):
        self.assertEqual(ask(*rows([()] * 8), row(0))[7:], [[7], [-7]])

    def test_the_same_row_twice_is_two_rows(self):
        self.assertEqual(ask(row(2, 3), row(2, 3), drop(0), drop(0), drop(0)), [[0], [1], [1], [0], [-2]])

    def test_the_same_row_fills_the_log_too(self):
        self.assertEqual(ask(*rows([(4,)] * 8), row(4))[7:], [[7], [-7]])


class Drop(unittest.TestCase):
    def test_answers_how_many_rows_there_are_then(self):
        self.assertEqual(ask(row(0), row(1), row(2), drop(2), drop(0), drop(0))[3:], [[2], [1], [0]])

    def test_takes_that_row_away_alone(self):
        left = []
        for which in range(3):
            left.append(ask(row(0), row(1), row(2), drop(which), FIND)[-1])
        self.assertEqual(left, [[3, 3, 0, 1, 0, 2], [3, 3, 0, 0, 0, 2], [3, 3, 0, 0, 0, 1]])

    def test_those_behind_it_move_up(self):
        # Row 2 is row 1 after the first drop, so dropping 1 again takes it away.
        self.assertEqual(ask(row(0), row(1), row(2), row(3), drop(1), drop(1), FIND)[-1], [3, 3, 0, 0, 0, 3])

    def test_next_row_comes_behind_those_that_are_left(self):
        self.assertEqual(ask(row(0), row(1), drop(0), row(2), drop(0), FIND)[3:], [[1], [1], [1, 0, 2]])

    def test_empty_log_has_no_row(self):
        self.assertEqual(ask(drop(0), drop(1), drop(HIGHEST)), [[-2], [-2], [-2]])

    def test_no_such_row(self):
        self.assertEqual(ask(row(0), row(1), drop(2), drop(3), drop(HIGHEST), drop(1))[2:], [[-2], [-2], [-2], [1]])

    def test_no_such_row_in_a_full_log(self):
        self.assertEqual(ask(*rows(EIGHT_ROWS), drop(8), drop(7))[8:], [[-2], [7]])

    def test_ninth_row_has_its_place_behind_a_drop(self):
        self.assertEqual(ask(*rows(EIGHT_ROWS), row(5), drop(3), row(5), row(5))[8:], [[-7], [7], [7], [-7]])

    def test_a_row_that_stands_twice_is_still_there_once(self):
        self.assertEqual(ask(row(1), row(1), drop(1), FIND)[-2:], [[1], [1, 0, 1]])


class Refusals(unittest.TestCase):
    def same_without(self, before, refused, number):
        """What's answered behind a refused call is as if it hadn't been."""
        behind = [FIND, FOLLOWS, CUTS, takes(), takes(0, 1), row(2, 4), FIND, drop(0), FIND, takes(5), row(3),
                  FOLLOWS, CUTS, drop(7), row(1), FIND]
        with_it = ask(*before, refused, *behind)
        without = ask(*before, *behind)
        place = len(before)
        self.assertEqual(with_it[place], [number])
        self.assertEqual(with_it[:place] + with_it[place + 1:], without)

    def test_all_is_as_it_was(self):
        wrong = [call(*steps) for steps in WRONG_STEPS for call in (row, takes)]
        for log in ([], [()], [(0, 1)], [(0, 1), (1, 0), (5,)], EIGHT_ROWS):
            for refused in wrong:
                with self.subTest(log=log, refused=refused):
                    self.same_without(rows(log), refused, -1)
            for which in (len(log), len(log) + 1, HIGHEST):
                with self.subTest(log=log, which=which):
                    self.same_without(rows(log), drop(which), -2)

    def test_a_full_log_is_as_it_was(self):
        for refused in (row(), row(0), row(5, 4, 3, 2, 1, 0)):
            with self.subTest(refused=refused):
                self.same_without(rows(EIGHT_ROWS), refused, -7)


class Lists(unittest.TestCase):
    CALLS = [row(0, 1), row(1, 0), FIND, takes(1, 0), FOLLOWS, CUTS, row(6), takes(6), drop(2),
             drop(0), FIND, takes(0, 1), FOLLOWS, CUTS, BEGINS, row(), FIND, takes(), FOLLOWS, CUTS]
    LINE = line(CALLS)

    def test_counts_stand_ahead_of_answers(self):
        self.assertEqual(answers(self.LINE), [
            1, 0, 1, 1, 6, 3, 4, 0, 0, 0, 1, 1, 1, 7, 2, 0, 1, 1, 1, 1, 0,
            17, 0, 1, 2, 0, 1, 1, 2, 0, 1, 2, 1, 0, 1, 1, 2, 0, 1, 1, -1, 1, -1, 1, -2,
            1, 1, 6, 3, 2, 0, 1, 0, 0, 1, 0, 6, 2, 0, 0, 1, 1, 0,
            17, 0, 1, 2, 0, 1, 2, 1, 1, 1, 0, 1, 2, 0, 1, 2, 0, 1,
            1, 0, 1, 0, 2, 1, 1, 1, 1, 1, 0, 6, 0, 0, 0, 1, 0, 0])

    def test_single_calls(self):
        self.assertEqual(answers([0]), [1, 0])
        self.assertEqual(answers([1, 0]), [1, 0])
        self.assertEqual(answers([1, 1, 6]), [1, -1])
        self.assertEqual(answers([2, 0]), [1, -2])
        self.assertEqual(answers([3]), [2, 1, 1])
        self.assertEqual(answers([4, 0]), [1, 1])
        self.assertEqual(answers([4, 1, 5]), [1, 0])
        self.assertEqual(answers([4, 1, 6]), [1, -1])
        self.assertEqual(answers([5]), [1, 0])
        self.assertEqual(answers([6]), [6, 0, 0, 0, 1, 0, 0])

    def test_sixty_calls(self):
        self.assertEqual(ask(*[call for k in range(20) for call in (row(3), FIND, BEGINS)]), [[0], [1, 0, 3], [0]] * 20)

    def test_steps_are_not_taken_for_calls(self):
        self.assertEqual(ask(row(3, 0, 2, 1), drop(0), row(0, 0), drop(3)), [[0], [0], [0], [-2]])
        self.assertEqual(ask(takes(1, 1, 1), takes(0), takes(*[3] * 20), row(5)), [[0], [0], [-1], [0]])

    def test_gives_back_a_list_of_whole_numbers(self):
        given = answers(self.LINE)
        self.assertIs(type(given), list)
        self.assertEqual({type(number) for number in given}, {int})

    def test_what_is_handed_in_is_not_changed(self):
        handed = Watched(self.LINE)
        self.assertEqual(answers(handed), answers(self.LINE))
        self.assertEqual(list(handed), line(self.CALLS))

    def test_asked_twice_the_same_is_answered(self):
        first = answers(self.LINE)
        kept = list(first)
        answers(line(rows(EIGHT_ROWS)))
        self.assertEqual(answers(self.LINE), kept)
        self.assertEqual(first, kept)

    def test_changing_what_was_given_back_changes_nothing(self):
        kept = list(answers(self.LINE))
        answers(self.LINE).clear()
        self.assertEqual(answers(self.LINE), kept)

    def test_each_line_has_a_new_log(self):
        answers(line(rows(EIGHT_ROWS)))
        self.assertEqual(ask(FIND, FOLLOWS, takes(0), row(0)), [[1, 1], [0], [0], [0]])


if __name__ == "__main__":
    unittest.main()
