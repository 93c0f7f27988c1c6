"""The form of what is handed in and given back, and what holds for all calls."""

import contextlib
import io
import unittest

from asking import (BEST_ASSIGNMENT, CREATE, HIGHEST, LIST_RATINGS, LOWEST, MAX_DEFICIENCY, MAX_RUNNING, MINIMUM_COVER,
                    add_machine, add_mould, ask, check_assignment, check_cover, fits, flat, max_running_without,
                    neighbours, remove_machine, remove_mould, reveal, revealed, set_machine, set_mould, shop)

from mouldpress.reading import read_calls
from mouldpress.shop import answers

EXAMPLE = [CREATE, add_machine(300, 450), add_machine(120, 300), add_mould(100, 280), add_mould(250, 400),
           add_mould(110, 300), fits(1, 1), BEST_ASSIGNMENT, MINIMUM_COVER, MAX_DEFICIENCY,
           check_assignment([0, 1, -1]), add_mould(0, 280)]
EXAMPLE_ANSWERS = [1, 0, 1, 0, 1, 1, 1, 0, 1, 1, 1, 2, 1, 0, 4, 2, 0, -1, 1, 4, 2, 0, 0, 1, 4, 1, 0, 1, 2, 2, 0, 2,
                   1, -22]

# One of each call but create, all of them in order.
FULL_ROW = list(range(70))
EACH_CALL = [add_machine(1, 1), add_mould(1, 1), remove_machine(0), remove_mould(0), set_machine(0, 1, 1),
             set_mould(0, 1, 1), fits(0, 0), MAX_RUNNING, BEST_ASSIGNMENT, MINIMUM_COVER, MAX_DEFICIENCY,
             check_assignment(FULL_ROW), check_cover(FULL_ROW, FULL_ROW), neighbours(FULL_ROW),
             max_running_without(0), LIST_RATINGS]

# Rows of several lengths, none too, with other calls behind them.
ROWS = [CREATE, add_machine(5, 5), add_mould(5, 5), check_assignment([0]), check_cover([], [0]), check_cover([0], []),
        check_cover([], []), neighbours([0]), neighbours([]), check_assignment([]), check_assignment([0, 0]),
        check_cover([0, 0], [0]), check_cover([0], [0, 0]), MINIMUM_COVER, MAX_DEFICIENCY, max_running_without(0),
        LIST_RATINGS]
ROWS_ANSWERS = [1, 0, 1, 0, 1, 0, 2, 1, 1, 2, 1, 1, 2, 1, 1, 2, 0, 0, 2, 1, 0, 1, 0, 1, -22, 1, -22, 1, -22, 1, -22,
                3, 1, 0, 0, 1, 0, 1, 0, 6, 1, 5, 5, 1, 5, 5]

MIXED = [CREATE, add_machine(300, 450), add_mould(100, 280), set_machine(0, 5, 6), set_mould(0, 1, 2), fits(0, 0),
         MAX_RUNNING, remove_machine(0), remove_mould(0), remove_mould(0), add_machine(0, 0)]
MIXED_ANSWERS = [1, 0, 1, 0, 1, 0, 3, 0, 300, 450, 3, 0, 100, 280, 1, 1, 1, 1, 1, 0, 1, 0, 1, -2, 1, -22]


class LockedList(list):
    """A list that fails the test as soon as anything in it is changed."""

    def refuse(self, *args, **kwargs):
        raise AssertionError("the list that was handed in is changed")

    append = clear = extend = insert = pop = remove = reverse = sort = refuse
    __setitem__ = __delitem__ = __iadd__ = __imul__ = refuse


class FormTest(unittest.TestCase):
    def test_the_example_in_one_request(self):
        self.assertEqual(answers(flat(EXAMPLE)), EXAMPLE_ANSWERS)

    def test_every_call_behind_another(self):
        self.assertEqual(answers(flat(MIXED)), MIXED_ANSWERS)

    def test_rows_of_several_lengths(self):
        self.assertEqual(answers(flat(ROWS)), ROWS_ANSWERS)

    def test_answers_hold_their_lengths(self):
        self.assertEqual(answers([0, 9, 10, 11, 16]), [1, 0, 1, 0, 2, 0, 0, 1, 0, 2, 0, 0])

    def test_single_call(self):
        self.assertEqual(answers([0]), [1, 0])

    def test_sixty_calls(self):
        self.assertEqual(answers([0] + [8] * 59), [1, 0] * 60)

    def test_gives_back_a_list_of_whole_numbers(self):
        for calls in (MIXED, EXAMPLE, ROWS):
            given = answers(flat(calls))
            self.assertIs(type(given), list)
            self.assertEqual({type(number) for number in given}, {int})

    def test_prints_nothing(self):
        printed = io.StringIO()
        with contextlib.redirect_stdout(printed), contextlib.redirect_stderr(printed):
            answers(flat(MIXED + EXAMPLE + ROWS))
        self.assertEqual(printed.getvalue(), "")


class LongestTest(unittest.TestCase):
    def ask_locked(self, calls):
        """The answers, with a look at the list that is handed in."""
        self.assertEqual(len(calls), 60)
        handed_in = LockedList(flat(calls))
        before = tuple(handed_in)
        given = answers(handed_in)
        self.assertEqual(tuple(handed_in), before)
        return given

    def test_sixty_queries(self):
        built = shop([(5, 5)] * 5, [(5, 5)] * 5)
        queries = [BEST_ASSIGNMENT, MINIMUM_COVER, MAX_DEFICIENCY, check_assignment([4, 3, 2, 1, 0]),
                   check_cover([0, 1, 2, 3], [0]), neighbours([4, 0]), max_running_without(4)]
        wanted = [6, 5, 0, 1, 2, 3, 4, 7, 5, 0, 0, 1, 2, 3, 4, 1, 0, 2, 1, 5, 2, 0, 5, 6, 5, 0, 1, 2, 3, 4, 1, 4]
        given = self.ask_locked(built + queries * 7)
        self.assertEqual(given, [1, 0] + [1, 0, 1, 1, 1, 2, 1, 3, 1, 4] * 2 + wanted * 7)

    def test_two_full_rows_in_each_call(self):
        calls = [check_cover(FULL_ROW, FULL_ROW)] * 60
        self.assertEqual(len(flat(calls)), 8580)
        self.assertEqual(self.ask_locked(calls), [1, -11] * 60)

    def test_two_full_rows_in_each_call_behind_create(self):
        for row in (FULL_ROW, [0] * 70, [LOWEST] * 70, [HIGHEST] * 70, [-1] * 70):
            calls = [CREATE] + [check_cover(row, row)] * 59
            self.assertEqual(self.ask_locked(calls), [1, 0] + [1, -22] * 59)
            built = shop([(5, 5)] * 5, [(5, 5)] * 5)
            calls = built + [check_cover(row, row), check_assignment(row), neighbours(row)] * 16 + [LIST_RATINGS]
            self.assertEqual(self.ask_locked(calls)[22:], [1, -22] * 48 + [22] + [5, *[5, 5] * 5] * 2)


class HandedInTest(unittest.TestCase):
    def test_is_the_same_afterwards(self):
        for calls in (EXAMPLE, MIXED, ROWS, EACH_CALL, [CREATE, *EACH_CALL]):
            handed_in = flat(calls)
            before = list(handed_in)
            answers(handed_in)
            self.assertEqual(handed_in, before)

    def test_is_not_changed_for_a_while(self):
        for calls in (EXAMPLE, MIXED, ROWS, EACH_CALL, [CREATE, *EACH_CALL]):
            answers(LockedList(flat(calls)))


class NothingKeptTest(unittest.TestCase):
    def test_each_request_is_as_if_the_first(self):
        for turn in range(3):
            self.assertEqual(answers(flat(EXAMPLE)), EXAMPLE_ANSWERS)
            self.assertEqual(answers(flat(MIXED)), MIXED_ANSWERS)
            self.assertEqual(answers(flat(ROWS)), ROWS_ANSWERS)

    def test_no_instance_is_left_over(self):
        ask(*shop([(5, 5)], [(5, 5)]))
        self.assertEqual(ask(MAX_RUNNING, CREATE, MAX_RUNNING), [[-11], [0], [0]])

    def test_an_error_leaves_nothing_over(self):
        ask(CREATE, add_machine(0, 0))
        self.assertEqual(ask(add_machine(5, 5), CREATE, add_machine(5, 5)), [[-11], [0], [0]])

    def test_what_was_given_back_may_be_changed(self):
        answers(flat(EXAMPLE)).clear()
        self.assertEqual(answers(flat(EXAMPLE)), EXAMPLE_ANSWERS)


class NoInstanceTest(unittest.TestCase):
    def test_each_call_but_create(self):
        for call in EACH_CALL:
            with self.subTest(call=call[0]):
                self.assertEqual(ask(call), [[-11]])

    def test_comes_before_every_other_error(self):
        wrong = [add_machine(0, 1000), add_mould(LOWEST, HIGHEST), remove_machine(-1), remove_mould(HIGHEST),
                 set_machine(-1, 0, 0), set_mould(LOWEST, 0, 0), fits(-1, HIGHEST), check_assignment([-2]),
                 check_cover([-1], [0, 0]), neighbours([HIGHEST, HIGHEST]), max_running_without(-1)]
        self.assertEqual(ask(*wrong), [[-11]] * len(wrong))

    def test_all_in_one_request(self):
        self.assertEqual(ask(*EACH_CALL), [[-11]] * 16)

    def test_calls_ahead_of_create_do_nothing(self):
        got = ask(*EACH_CALL, CREATE, MAX_RUNNING, *reveal(0, 0))
        self.assertEqual(got, [[-11]] * 16 + [[0], [0], *revealed([], [])])

    def test_more_than_five_ahead_of_create(self):
        calls = [add_machine(1, 1)] * 6 + [CREATE] + [add_machine(1, 1)] * 6
        self.assertEqual(ask(*calls), [[-11]] * 6 + [[0], [0], [1], [2], [3], [4], [-28]])


class ErrorsTest(unittest.TestCase):
    def test_all_errors_in_a_row_leave_the_instance(self):
        machines = [(3, 4), (5, 6), (7, 8), (9, 10), (11, 12)]
        moulds = [(2, 3), (4, 5), (6, 7), (8, 9), (10, 11)]
        errors = [add_machine(5, 1000), add_machine(5, 5), add_mould(0, 5), add_mould(5, 5), remove_machine(5),
                  remove_machine(-1), remove_mould(5), remove_mould(-1), set_machine(5, 5, 5), set_machine(-1, 0, 5),
                  set_machine(4, 0, 5), set_mould(5, 5, 5), set_mould(-1, 0, 5), set_mould(4, 5, 1000), fits(5, 0),
                  fits(0, 5), fits(-1, 0), fits(0, -1)]
        codes = [-22, -28, -22, -28, -2, -2, -2, -2, -2, -2, -22, -2, -2, -22, -2, -2, -2, -2]
        built = shop(machines, moulds)
        got = ask(*built, *errors, MAX_RUNNING, *reveal(5, 5))[len(built):]
        self.assertEqual(got, [[code] for code in codes] + [[5]] + revealed(machines, moulds))


class ReadingTest(unittest.TestCase):
    def read(self, *calls):
        return [(call.number, call.numbers, call.rows) for call in read_calls(flat(calls))]

    def test_all_seventeen(self):
        got = self.read(CREATE, *EACH_CALL)
        self.assertEqual([number for number, numbers, rows in got], list(range(17)))
        self.assertEqual([len(numbers) for number, numbers, rows in got],
                         [0, 2, 2, 1, 1, 3, 3, 2, 0, 0, 0, 0, 0, 0, 0, 1, 0])
        self.assertEqual([rows for number, numbers, rows in got],
                         [[]] * 12 + [[FULL_ROW], [FULL_ROW, FULL_ROW], [FULL_ROW], [], []])

    def test_rows_of_every_kind(self):
        got = self.read((13, 0, 2, 8, 9), (13, 1, 7, 0), (12, 0), (14, 0), (14, 2, LOWEST, HIGHEST))
        self.assertEqual(got, [(13, [], [[], [8, 9]]), (13, [], [[7], []]), (12, [], [[]]), (14, [], [[]]),
                               (14, [], [[LOWEST, HIGHEST]])])


if __name__ == "__main__":
    unittest.main()
