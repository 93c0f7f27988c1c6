"""The document's example as a whole, its points 1 to 4, and queries between changes."""

import random
import unittest

import judging
from asking import (BEST_ASSIGNMENT, CREATE, HIGHEST, LIST_RATINGS, LOWEST, MAX_DEFICIENCY, MAX_RUNNING, MINIMUM_COVER,
                    add_machine, add_mould, ask, ask_shop, check_assignment, check_cover, fits, listed,
                    max_running_without, neighbours, remove_machine, remove_mould, set_machine, set_mould, shop)
from shops import drawn_shops

MACHINES = [(300, 450), (120, 300)]
MOULDS = [(100, 280), (250, 400), (110, 300)]
SOLVED = [MAX_RUNNING, BEST_ASSIGNMENT, MINIMUM_COVER, MAX_DEFICIENCY]

# Each call from 7 on with numbers that are right for the example's shop, and what it answers there.
QUERIES = [(fits(1, 1), [0]), (fits(2, 1), [1]), (MAX_RUNNING, [2]), (BEST_ASSIGNMENT, [2, 0, -1, 1]),
           (MINIMUM_COVER, [2, 0, 0, 1]), (MAX_DEFICIENCY, [1, 0, 1, 2]), (check_assignment([0, 1, -1]), [0, 2]),
           (check_assignment([-1, 0, 1]), [1, 2]), (check_cover([], [1, 0]), [1, 2]), (check_cover([2], [0]), [0, 2]),
           (neighbours([1]), [1, 0]), (neighbours([2, 1]), [2, 0, 1]), (max_running_without(0), [1]),
           (max_running_without(1), [1]), (LIST_RATINGS, [2, 300, 450, 120, 300, 3, 100, 280, 250, 400, 110, 300])]

# Each error of each call on the example's shop, and its code.
ERRORS = [(add_machine(0, 280), -22), (add_machine(280, 1000), -22), (add_mould(0, 280), -22),
          (add_mould(280, 1000), -22), (remove_machine(2), -2), (remove_machine(-1), -2), (remove_mould(3), -2),
          (remove_mould(-1), -2), (set_machine(2, 5, 5), -2), (set_machine(2, 0, 0), -2), (set_machine(1, 0, 5), -22),
          (set_mould(3, 5, 5), -2), (set_mould(-1, 0, 0), -2), (set_mould(0, 5, 1000), -22), (fits(3, 0), -2),
          (fits(0, 2), -2), (check_assignment([0, 1]), -22), (check_assignment([0, 1, -1, -1]), -22),
          (check_assignment([0, 2, -1]), -22), (check_assignment([0, -2, -1]), -22), (check_cover([3], []), -22),
          (check_cover([0, 0], []), -22), (check_cover([], [2]), -22), (check_cover([], [1, 1]), -22),
          (neighbours([-1]), -22), (neighbours([1, 1]), -22), (max_running_without(2), -2),
          (max_running_without(-1), -2)]


class ExampleTest(unittest.TestCase):
    def test_the_whole_table_in_one_request(self):
        got = ask(CREATE, add_machine(300, 450), add_machine(120, 300), add_mould(100, 280), add_mould(250, 400),
                  add_mould(110, 300), fits(1, 1), BEST_ASSIGNMENT, MINIMUM_COVER, MAX_DEFICIENCY,
                  check_assignment([0, 1, -1]), add_mould(0, 280))
        self.assertEqual(got, [[0], [0], [1], [0], [1], [2], [0], [2, 0, -1, 1], [2, 0, 0, 1], [1, 0, 1, 2], [0, 2],
                               [-22]])

    def test_each_further_query(self):
        calls = [call for call, wanted in QUERIES]
        self.assertEqual(ask_shop(MACHINES, MOULDS, *calls), [wanted for call, wanted in QUERIES])

    def test_each_query_twice_in_one_request(self):
        for call, wanted in QUERIES:
            self.assertEqual(ask_shop(MACHINES, MOULDS, call, call), [wanted, wanted])
        calls = [call for call, wanted in QUERIES]
        self.assertEqual(ask_shop(MACHINES, MOULDS, *calls, *calls), [wanted for call, wanted in QUERIES] * 2)

    def test_queries_behind_one_another_in_the_other_order(self):
        backwards = QUERIES[::-1]
        calls = [call for call, wanted in backwards]
        self.assertEqual(ask_shop(MACHINES, MOULDS, *calls), [wanted for call, wanted in backwards])


class DualityTest(unittest.TestCase):
    """Point 1."""

    def test_the_assignment_is_valid_and_of_the_maximum_size(self):
        for machines, moulds in drawn_shops(61, 400):
            running, best = ask_shop(machines, moulds, MAX_RUNNING, BEST_ASSIGNMENT)
            self.assertEqual(len(best), 1 + len(moulds), (machines, moulds))
            self.assertEqual([best[0]], running, (machines, moulds))
            checked = ask_shop(machines, moulds, check_assignment(best[1:]))[0]
            self.assertEqual(checked, [1, best[0]], (machines, moulds))

    def test_the_cover_is_one_and_as_large_as_what_runs(self):
        for machines, moulds in drawn_shops(62, 400):
            running, found = ask_shop(machines, moulds, MAX_RUNNING, MINIMUM_COVER)
            chosen = found[2:2 + found[1]]
            taken = found[2 + found[1]:]
            self.assertEqual([found[0]], running, (machines, moulds))
            checked = ask_shop(machines, moulds, check_cover(chosen, taken))[0]
            self.assertEqual(checked, [1, running[0]], (machines, moulds))

    def test_no_cover_with_one_member_less(self):
        for machines, moulds in drawn_shops(63, 100):
            found = ask_shop(machines, moulds, MINIMUM_COVER)[0]
            chosen = found[2:2 + found[1]]
            taken = found[2 + found[1]:]
            smaller = [check_cover([i for i in chosen if i != left], taken) for left in chosen]
            smaller += [check_cover(chosen, [j for j in taken if j != left]) for left in taken]
            got = ask_shop(machines, moulds, *smaller)
            self.assertEqual(got, [[0, found[0] - 1]] * found[0], (machines, moulds))


class HallTest(unittest.TestCase):
    """Point 2."""

    def test_what_runs_and_what_is_short_are_all_moulds(self):
        for machines, moulds in drawn_shops(64, 400):
            running, deficient = ask_shop(machines, moulds, MAX_RUNNING, MAX_DEFICIENCY)
            self.assertEqual(running[0] + deficient[0], len(moulds), (machines, moulds))

    def test_the_deficient_set_is_as_short_of_machines_as_told(self):
        for machines, moulds in drawn_shops(65, 400):
            deficient = ask_shop(machines, moulds, MAX_DEFICIENCY)[0]
            found = ask_shop(machines, moulds, neighbours(deficient[1:]))[0]
            self.assertEqual(len(deficient[1:]) - found[0], deficient[0], (machines, moulds))


class MonotonicityTest(unittest.TestCase):
    """Point 3."""

    def test_a_better_machine_never_runs_fewer(self):
        chooser = random.Random(66)
        for machines, moulds in drawn_shops(66, 200):
            for j, (clamp_force, platen_size) in enumerate(machines):
                more = (chooser.randint(clamp_force, 999), chooser.randint(platen_size, 999))
                for better in ((more[0], platen_size), (clamp_force, more[1]), more, (999, 999)):
                    got = ask_shop(machines, moulds, MAX_RUNNING, set_machine(j, *better), MAX_RUNNING)
                    self.assertGreaterEqual(got[2], got[0], (machines, moulds, j, better))

    def test_without_a_machine_at_most_one_fewer_runs_as_told_beforehand(self):
        for machines, moulds in drawn_shops(67, 200):
            for j in range(len(machines)):
                got = ask_shop(machines, moulds, MAX_RUNNING, max_running_without(j), remove_machine(j), MAX_RUNNING)
                self.assertIn(got[0][0] - got[3][0], (0, 1), (machines, moulds, j))
                self.assertEqual(got[1], got[3], (machines, moulds, j))


class UnchangedTest(unittest.TestCase):
    """Point 4."""

    def check(self, machines, moulds, call, wanted=None):
        before, answer, after = ask_shop(machines, moulds, LIST_RATINGS, call, LIST_RATINGS)
        self.assertEqual([before, after], [listed(machines, moulds)] * 2, (machines, moulds, call))
        if wanted is not None:
            self.assertEqual(answer, wanted, (machines, moulds, call))

    def test_after_each_query(self):
        for call, wanted in QUERIES:
            self.check(MACHINES, MOULDS, call, wanted)

    def test_after_each_error(self):
        for call, code in ERRORS:
            self.check(MACHINES, MOULDS, call, [code])

    def test_after_all_errors_in_one_request(self):
        calls = [call for call, code in ERRORS]
        got = ask_shop(MACHINES, MOULDS, *calls, LIST_RATINGS, *SOLVED)
        wanted = [[code] for call, code in ERRORS] + [listed(MACHINES, MOULDS)] + judging.due(MACHINES, MOULDS)
        self.assertEqual(got, wanted)

    def test_after_the_errors_of_full_lists(self):
        five = [(10, 20), (30, 40), (50, 60), (70, 80), (90, 100)]
        for call, code in ((add_machine(5, 5), -28), (add_mould(5, 5), -28), (add_machine(0, 5), -22),
                           (add_mould(5, 1000), -22)):
            self.check(five, five[::-1], call, [code])

    def test_after_each_query_on_drawn_shops(self):
        for machines, moulds in drawn_shops(68, 40):
            last_machine = len(machines) - 1
            last_mould = len(moulds) - 1
            for call in (*SOLVED, fits(last_mould, last_machine), check_assignment([last_machine] * len(moulds)),
                         check_cover([last_mould], [last_machine]), check_cover([], []), neighbours([last_mould]),
                         max_running_without(last_machine), max_running_without(0), LIST_RATINGS):
                self.check(machines, moulds, call)


def drawn_rating(chooser):
    return (chooser.randint(0, 6), chooser.randint(1, 7))


def drawn_change(chooser):
    """A change that may be an error: its index or its rating may be wrong, and its list full or empty."""
    index = chooser.randint(-1, 5)
    rating = drawn_rating(chooser)
    return chooser.choice([add_machine(*rating), add_mould(*rating), remove_machine(index), remove_mould(index),
                           set_machine(index, *rating), set_mould(index, *rating), add_machine(*rating),
                           add_mould(*rating)])


def changed(machines, moulds, call):
    """The machines and moulds behind a change, by what the document says of each."""
    sides = [list(machines), list(moulds)]
    ratings = sides[(call[0] - 1) % 2]
    rating = call[-2:]
    right = len(rating) == 2 and all(1 <= number <= 999 for number in rating)
    if call[0] in (1, 2) and right and len(ratings) < 5:
        ratings.append(rating)
    elif call[0] in (3, 4) and 0 <= call[1] < len(ratings):
        ratings.pop(call[1])
    elif call[0] in (5, 6) and right and 0 <= call[1] < len(ratings):
        ratings[call[1]] = rating
    return sides


class BetweenChangesTest(unittest.TestCase):
    def test_queries_again_after_each_change(self):
        steps = [(add_machine(260, 390), MACHINES + [(260, 390)], MOULDS),
                 (remove_machine(0), MACHINES[1:], MOULDS),
                 (set_machine(1, 999, 999), [MACHINES[0], (999, 999)], MOULDS),
                 (add_mould(120, 300), MACHINES, MOULDS + [(120, 300)]),
                 (remove_mould(1), MACHINES, [MOULDS[0], MOULDS[2]]),
                 (set_mould(0, 301, 1), MACHINES, [(301, 1), *MOULDS[1:]])]
        for call, machines, moulds in steps:
            with self.subTest(call=call):
                got = ask_shop(MACHINES, MOULDS, *SOLVED, call, *SOLVED, LIST_RATINGS)
                self.assertEqual(got[:4], judging.due(MACHINES, MOULDS))
                self.assertEqual(got[5:], judging.due(machines, moulds) + [listed(machines, moulds)])

    def test_further_queries_before_and_after_each_change(self):
        chooser = random.Random(70)
        for machines, moulds in drawn_shops(70, 100):
            change = drawn_change(chooser)
            before = judging.due_of_each(machines, moulds)[:20]
            after = judging.due_of_each(*changed(machines, moulds, change))[-20:]
            got = ask_shop(machines, moulds, *[call for call, wanted in before], change,
                           *[call for call, wanted in after])
            self.assertEqual(got[:len(before)], [wanted for call, wanted in before], (machines, moulds))
            self.assertEqual(got[len(before) + 1:], [wanted for call, wanted in after], (machines, moulds, change))

    def test_drawn_changes_with_what_is_solved_between(self):
        chooser = random.Random(69)
        for turn in range(100):
            machines, moulds = [], []
            calls, wanted = [CREATE], [None]
            for step in range(9):
                change = drawn_change(chooser)
                machines, moulds = changed(machines, moulds, change)
                calls += [change, LIST_RATINGS, *SOLVED]
                wanted += [None, listed(machines, moulds), *judging.due(machines, moulds)]
            self.assertLessEqual(len(calls), 60)
            got = [None if due is None else answer for answer, due in zip(ask(*calls), wanted, strict=True)]
            self.assertEqual(got, wanted, calls)

    def test_after_a_new_create(self):
        got = ask(*shop(MACHINES, MOULDS), *SOLVED, *shop(MOULDS, MACHINES), *SOLVED, LIST_RATINGS)
        self.assertEqual(got[6:10], judging.due(MACHINES, MOULDS))
        self.assertEqual(got[16:], judging.due(MOULDS, MACHINES) + [listed(MOULDS, MACHINES)])
        got = ask_shop(MACHINES, MOULDS, CREATE, *SOLVED, LIST_RATINGS, check_assignment([]), check_cover([], []),
                       neighbours([]), max_running_without(0))
        self.assertEqual(got, [[0], [0], [0], [0, 0], [0], [0, 0], [1, 0], [1, 0], [0], [-2]])

    def test_error_codes_come_from_the_shop_as_it_is_now(self):
        got = ask_shop(MACHINES, MOULDS, neighbours([2]), remove_mould(0), neighbours([2]), max_running_without(1),
                       remove_machine(0), max_running_without(1), check_cover([], [1]), check_assignment([1, -1]),
                       add_machine(LOWEST, HIGHEST), check_assignment([-1, 0]))
        self.assertEqual(got, [[2, 0, 1], [2], [-22], [1], [1], [-2], [-22], [-22], [-22], [1, 1]])


if __name__ == "__main__":
    unittest.main()
