"""Calls 9 and 12: best_assignment and check_assignment."""

import itertools
import random
import unittest

import judging
from asking import (BEST_ASSIGNMENT, CREATE, HIGHEST, LIST_RATINGS, LOWEST, ask, ask_shop, check_assignment, listed,
                    remove_machine, remove_mould, set_machine)
from shops import drawn_shops, small_shops

MACHINES = [(300, 450), (120, 300)]
MOULDS = [(100, 280), (250, 400), (110, 300)]


def best(machines, moulds):
    return ask_shop(machines, moulds, BEST_ASSIGNMENT)[0]


def checked(machines, moulds, entries):
    return ask_shop(machines, moulds, check_assignment(entries))[0]


class BestAssignmentTest(unittest.TestCase):
    def test_example(self):
        self.assertEqual(best(MACHINES, MOULDS), [2, 0, -1, 1])

    def test_ahead_of_create(self):
        self.assertEqual(ask(BEST_ASSIGNMENT, CREATE, BEST_ASSIGNMENT), [[-11], [0], [0]])

    def test_nothing_there(self):
        self.assertEqual(best([], []), [0])

    def test_no_machines(self):
        for mould_count in range(1, 6):
            self.assertEqual(best([], [(1, 1)] * mould_count), [0] + [-1] * mould_count)

    def test_no_moulds(self):
        for machine_count in range(1, 6):
            self.assertEqual(best([(999, 999)] * machine_count, []), [0])

    def test_nothing_fits(self):
        self.assertEqual(best([(9, 1), (1, 9)], [(2, 2), (3, 3)]), [0, -1, -1])

    def test_one_of_each(self):
        self.assertEqual(best([(5, 5)], [(5, 5)]), [1, 0])
        self.assertEqual(best([(5, 5)], [(5, 6)]), [0, -1])
        self.assertEqual(best([(5, 5)], [(6, 5)]), [0, -1])

    def test_five_of_each(self):
        self.assertEqual(best([(7, 7)] * 5, [(7, 7)] * 5), [5, 0, 1, 2, 3, 4])
        rising = [(1, 1), (2, 2), (3, 3), (4, 4), (5, 5)]
        self.assertEqual(best(rising, rising), [5, 0, 1, 2, 3, 4])
        self.assertEqual(best(rising[::-1], rising), [5, 4, 3, 2, 1, 0])
        self.assertEqual(best(rising, rising[::-1]), [5, 4, 3, 2, 1, 0])

    def test_smallest_machines_of_equal_ones_come_first(self):
        self.assertEqual(best([(7, 7)] * 5, [(7, 7)] * 2), [2, 0, 1])

    def test_not_running_stands_as_late_as_it_can(self):
        self.assertEqual(best([(7, 7)], [(7, 7)] * 3), [1, 0, -1, -1])
        self.assertEqual(best([(7, 7)] * 2, [(7, 7)] * 5), [2, 0, 1, -1, -1, -1])

    def test_greatest_machine_comes_before_not_running(self):
        machines = [(1, 1), (1, 1), (1, 1), (1, 1), (5, 5)]
        self.assertEqual(best(machines, [(5, 5), (3, 3)]), [1, 4, -1])

    def test_not_running_stands_first_where_no_machine_will_do(self):
        self.assertEqual(best([(5, 5)], [(6, 6), (5, 5)]), [1, -1, 0])

    def test_not_running_in_the_middle_keeps_the_rest_running(self):
        self.assertEqual(best([(5, 5), (3, 3)], [(4, 4), (4, 4), (3, 3)]), [2, 0, -1, 1])

    def test_size_comes_before_the_order(self):
        # Mould 0 leaves machine 0 to mould 1, which fits no other.
        self.assertEqual(best([(9, 9), (1, 1)], [(1, 1), (9, 9)]), [2, 1, 0])

    def test_size_comes_before_the_order_along_a_chain(self):
        machines = [(50, 10), (40, 20), (30, 30), (20, 40), (10, 50)]
        moulds = [(40, 10), (30, 20), (20, 30), (10, 40), (50, 10)]
        self.assertEqual(best(machines, moulds), [5, 1, 2, 3, 4, 0])

    def test_first_mould_runs_rather_than_a_later_one(self):
        # One of moulds 0 and 1 runs on machine 0; the largest size is reached either way.
        self.assertEqual(best([(5, 5)], [(1, 1), (5, 5)]), [1, 0, -1])

    def test_free_machine_is_not_taken_from_a_mould_that_needs_it(self):
        machines = [(5, 5), (6, 6), (7, 7)]
        moulds = [(5, 5), (5, 5), (6, 6), (7, 7)]
        self.assertEqual(best(machines, moulds), [3, 0, 1, 2, -1])

    def test_follows_each_change(self):
        got = ask_shop(MACHINES, MOULDS, remove_mould(0), BEST_ASSIGNMENT, set_machine(1, 300, 450), BEST_ASSIGNMENT,
                       remove_machine(0), BEST_ASSIGNMENT)
        self.assertEqual(got, [[2], [2, 0, 1], [0, 120, 300], [2, 0, 1], [1], [1, 0, -1]])

    def test_every_small_shop(self):
        for machines, moulds in small_shops():
            wanted = judging.best_assignment(judging.Table(machines, moulds))
            self.assertEqual(best(machines, moulds), wanted, (machines, moulds))

    def test_drawn_shops(self):
        for machines, moulds in drawn_shops(21, 500):
            wanted = judging.best_assignment(judging.Table(machines, moulds))
            self.assertEqual(best(machines, moulds), wanted, (machines, moulds))


class CheckAssignmentTest(unittest.TestCase):
    def test_example(self):
        # Mould 1 doesn't fit machine 1.
        self.assertEqual(checked(MACHINES, MOULDS, [0, 1, -1]), [0, 2])

    def test_valid_ones(self):
        for entries, size in (([0, -1, 1], 2), ([1, 0, -1], 2), ([1, -1, -1], 1), ([-1, -1, 0], 1), ([-1, 0, 1], 2)):
            with self.subTest(entries=entries):
                self.assertEqual(checked(MACHINES, MOULDS, entries), [1, size])

    def test_ahead_of_create(self):
        for entries in ([], [0], [-2], [LOWEST] * 70):
            self.assertEqual(ask(check_assignment(entries)), [[-11]])

    def test_nobody_running_is_valid(self):
        for mould_count in range(6):
            self.assertEqual(checked(MACHINES, [(5, 5)] * mould_count, [-1] * mould_count), [1, 0])
            self.assertEqual(checked([], [(5, 5)] * mould_count, [-1] * mould_count), [1, 0])

    def test_nothing_there(self):
        self.assertEqual(checked([], [], []), [1, 0])
        for entries in ([-1], [0], [-2]):
            self.assertEqual(checked([], [], entries), [-22])
            self.assertEqual(checked(MACHINES, [], entries), [-22])

    def test_no_machines(self):
        self.assertEqual(checked([], MOULDS, [-1, -1, -1]), [1, 0])
        self.assertEqual(checked([], MOULDS, [-1, 0, -1]), [-22])

    def test_one_machine_twice(self):
        self.assertEqual(checked(MACHINES, MOULDS, [0, 0, -1]), [0, 2])
        self.assertEqual(checked(MACHINES, MOULDS, [1, -1, 1]), [0, 2])
        self.assertEqual(checked(MACHINES, MOULDS, [0, 0, 0]), [0, 3])
        self.assertEqual(checked([(9, 9)] * 5, [(1, 1)] * 5, [4, 3, 2, 1, 4]), [0, 5])

    def test_mould_that_does_not_fit(self):
        self.assertEqual(checked(MACHINES, MOULDS, [-1, 1, -1]), [0, 1])
        self.assertEqual(checked(MACHINES, MOULDS, [-1, 1, 0]), [0, 2])
        self.assertEqual(checked([(5, 5)], [(5, 6)], [0]), [0, 1])
        self.assertEqual(checked([(5, 5)], [(6, 5)], [0]), [0, 1])

    def test_five_of_each(self):
        rising = [(1, 1), (2, 2), (3, 3), (4, 4), (5, 5)]
        self.assertEqual(checked(rising, rising, [0, 1, 2, 3, 4]), [1, 5])
        self.assertEqual(checked(rising, rising, [1, 0, 2, 3, 4]), [0, 5])
        self.assertEqual(checked(rising, rising, [4, 1, 2, 3, -1]), [1, 4])

    def test_wrong_length(self):
        for length in (0, 1, 2, 4, 5, 70):
            with self.subTest(length=length):
                got = ask_shop(MACHINES, MOULDS, check_assignment([-1] * length), LIST_RATINGS)
                self.assertEqual(got, [[-22], listed(MACHINES, MOULDS)])

    def test_length_is_of_the_moulds_not_of_the_machines(self):
        self.assertEqual(checked(MACHINES, MOULDS, [0, 1]), [-22])
        self.assertEqual(checked(MACHINES + [(5, 5)], MOULDS[:2], [1, 0]), [1, 2])
        self.assertEqual(checked(MACHINES + [(5, 5)], MOULDS[:2], [1, 0, -1]), [-22])

    def test_wrong_entry_at_every_place(self):
        for place, wrong in itertools.product(range(3), (-2, -3, 2, 3, LOWEST, HIGHEST)):
            for entries in ([-1, -1, -1], [0, -1, 1], [0, 0, 0], [1, 1, 1]):
                with self.subTest(entries=entries, place=place, wrong=wrong):
                    entries = entries[:place] + [wrong] + entries[place + 1:]
                    got = ask_shop(MACHINES, MOULDS, check_assignment(entries), LIST_RATINGS)
                    self.assertEqual(got, [[-22], listed(MACHINES, MOULDS)])

    def test_edges_of_the_machines(self):
        for machine_count in range(1, 6):
            machines = [(5, 5)] * machine_count
            for entry, wanted in ((-2, [-22]), (-1, [1, 0]), (0, [1, 1]), (machine_count - 1, [1, 1]),
                                  (machine_count, [-22])):
                self.assertEqual(checked(machines, [(5, 5)], [entry]), wanted, (machine_count, entry))

    def test_index_of_a_mould_that_is_no_machine(self):
        self.assertEqual(checked(MACHINES, MOULDS, [-1, -1, 2]), [-22])

    def test_wrong_length_and_wrong_entries(self):
        self.assertEqual(checked(MACHINES, MOULDS, [0, -2]), [-22])
        self.assertEqual(checked(MACHINES, MOULDS, list(range(70))), [-22])

    def test_every_list_of_entries_on_small_shops(self):
        shops = [(MACHINES, MOULDS), ([(1, 2), (2, 1), (2, 2)], [(1, 1), (2, 1), (1, 2)]),
                 ([(5, 5)] * 3, [(5, 5)] * 3), ([(1, 1), (2, 2), (3, 3)], [(2, 2), (3, 3), (4, 4)])]
        for machines, moulds in shops:
            table = judging.Table(machines, moulds)
            for entries in judging.all_entries(table):
                wanted = [int(judging.is_valid(table, entries)), judging.size_of(entries)]
                self.assertEqual(checked(machines, moulds, entries), wanted, (machines, moulds, entries))

    def test_drawn_shops(self):
        chooser = random.Random(22)
        for machines, moulds in drawn_shops(22, 200):
            table = judging.Table(machines, moulds)
            every = list(judging.all_entries(table))
            chosen = chooser.sample(every, min(len(every), 49))
            got = ask_shop(machines, moulds, *[check_assignment(entries) for entries in chosen])
            wanted = [[int(judging.is_valid(table, entries)), judging.size_of(entries)] for entries in chosen]
            self.assertEqual(got, wanted, (machines, moulds, chosen))


if __name__ == "__main__":
    unittest.main()
