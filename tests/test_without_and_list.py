"""Calls 15 and 16: max_running_without and list_ratings."""

import unittest

import judging
from asking import (CREATE, HIGHEST, LIST_RATINGS, LOWEST, MAX_RUNNING, add_machine, add_mould, ask, ask_shop, listed,
                    max_running_without, remove_machine, remove_mould, set_machine, set_mould)
from shops import drawn_shops, small_shops

MACHINES = [(300, 450), (120, 300)]
MOULDS = [(100, 280), (250, 400), (110, 300)]
FIVE = [(10, 20), (30, 40), (50, 60), (70, 80), (90, 100)]


def without(machines, moulds, j):
    return ask_shop(machines, moulds, max_running_without(j))[0]


class MaxRunningWithoutTest(unittest.TestCase):
    def test_each_machine_of_the_example(self):
        self.assertEqual(without(MACHINES, MOULDS, 0), [1])
        self.assertEqual(without(MACHINES, MOULDS, 1), [1])

    def test_ahead_of_create(self):
        for j in (0, -1, LOWEST, HIGHEST):
            self.assertEqual(ask(max_running_without(j)), [[-11]])

    def test_wrong_index(self):
        for j in (-1, 2, 3, LOWEST, HIGHEST):
            with self.subTest(j=j):
                got = ask_shop(MACHINES, MOULDS, max_running_without(j), LIST_RATINGS)
                self.assertEqual(got, [[-2], listed(MACHINES, MOULDS)])

    def test_edges_of_the_machines(self):
        for machine_count in range(6):
            got = ask_shop([(5, 5)] * machine_count, [(5, 5)] * 5, max_running_without(machine_count - 1),
                           max_running_without(machine_count), max_running_without(-1))
            last = [machine_count - 1] if machine_count else [-2]
            self.assertEqual(got, [last, [-2], [-2]])

    def test_no_moulds(self):
        self.assertEqual(without(MACHINES, [], 1), [0])
        self.assertEqual(without(MACHINES, [], 2), [-2])

    def test_only_machine(self):
        self.assertEqual(without([(999, 999)], MOULDS, 0), [0])

    def test_a_machine_that_no_mould_needs(self):
        machines = [(1, 1), (300, 450), (300, 450), (120, 300)]
        got = [without(machines, MOULDS, j) for j in range(4)]
        self.assertEqual(got, [[3], [2], [2], [2]])

    def test_of_equal_machines_with_few_moulds(self):
        self.assertEqual([without([(5, 5)] * 5, [(5, 5)] * 4, j) for j in range(5)], [[4]] * 5)

    def test_just_this_machine_is_left_out(self):
        # Each mould fits one machine only, and machine j runs mould j.
        machines = [(1, 9), (5, 5), (9, 1)]
        self.assertEqual([without(machines, [(1, 9)], j) for j in range(3)], [[0], [1], [1]])
        self.assertEqual([without(machines, [(5, 5)], j) for j in range(3)], [[1], [0], [1]])
        self.assertEqual([without(machines, [(9, 1)], j) for j in range(3)], [[1], [1], [0]])

    def test_the_machine_is_still_there(self):
        for j in range(5):
            got = ask_shop(FIVE, FIVE, max_running_without(j), MAX_RUNNING, LIST_RATINGS, max_running_without(j))
            self.assertEqual(got, [[4], [5], listed(FIVE, FIVE), [4]])

    def test_is_what_removing_it_makes(self):
        for machines, moulds in drawn_shops(51, 100):
            for j in range(-1, len(machines) + 1):
                got = ask_shop(machines, moulds, max_running_without(j), remove_machine(j), MAX_RUNNING)
                if 0 <= j < len(machines):
                    self.assertEqual(got[0], got[2], (machines, moulds, j))
                else:
                    self.assertEqual(got[:2], [[-2], [-2]], (machines, moulds, j))

    def test_every_small_shop(self):
        for machines, moulds in small_shops():
            for j in range(len(machines)):
                wanted = judging.due_without(machines, moulds, j)
                self.assertEqual(without(machines, moulds, j), [wanted], (machines, moulds, j))

    def test_drawn_shops(self):
        for machines, moulds in drawn_shops(52, 200):
            for j in range(len(machines)):
                wanted = judging.due_without(machines, moulds, j)
                self.assertEqual(without(machines, moulds, j), [wanted], (machines, moulds, j))


class ListRatingsTest(unittest.TestCase):
    def test_empty_shop(self):
        self.assertEqual(ask(LIST_RATINGS, CREATE, LIST_RATINGS), [[-11], [0], [0, 0]])

    def test_machines_come_first(self):
        self.assertEqual(ask_shop(MACHINES, MOULDS, LIST_RATINGS),
                         [[2, 300, 450, 120, 300, 3, 100, 280, 250, 400, 110, 300]])

    def test_one_side_empty(self):
        self.assertEqual(ask_shop(MACHINES, [], LIST_RATINGS), [[2, 300, 450, 120, 300, 0]])
        self.assertEqual(ask_shop([], MOULDS[:2], LIST_RATINGS), [[0, 2, 100, 280, 250, 400]])

    def test_full_shops(self):
        backwards = [rating[::-1] for rating in FIVE]
        self.assertEqual(ask_shop(FIVE, backwards, LIST_RATINGS),
                         [[5, 10, 20, 30, 40, 50, 60, 70, 80, 90, 100, 5, 20, 10, 40, 30, 60, 50, 80, 70, 100, 90]])
        self.assertEqual(ask_shop([(1, 999)] * 5, [(999, 1)] * 5, LIST_RATINGS),
                         [[5] + [1, 999] * 5 + [5] + [999, 1] * 5])

    def test_follows_each_change(self):
        got = ask(CREATE, add_machine(1, 2), LIST_RATINGS, add_mould(3, 4), LIST_RATINGS, add_machine(5, 6),
                  LIST_RATINGS, set_machine(0, 7, 8), LIST_RATINGS, set_mould(0, 9, 10), LIST_RATINGS,
                  remove_machine(0), LIST_RATINGS, remove_mould(0), LIST_RATINGS, CREATE, LIST_RATINGS)
        self.assertEqual(got[2::2], [[1, 1, 2, 0], [1, 1, 2, 1, 3, 4], [2, 1, 2, 5, 6, 1, 3, 4],
                                     [2, 7, 8, 5, 6, 1, 3, 4], [2, 7, 8, 5, 6, 1, 9, 10], [1, 5, 6, 1, 9, 10],
                                     [1, 5, 6, 0], [0, 0]])

    def test_twice(self):
        self.assertEqual(ask_shop(FIVE, MOULDS, LIST_RATINGS, LIST_RATINGS), [listed(FIVE, MOULDS)] * 2)

    def test_drawn_shops(self):
        for machines, moulds in drawn_shops(53, 100):
            self.assertEqual(ask_shop(machines, moulds, LIST_RATINGS), [listed(machines, moulds)])


if __name__ == "__main__":
    unittest.main()
