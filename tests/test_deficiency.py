"""Calls 11 and 14: max_deficiency and neighbours."""

import random
import unittest

import judging
from asking import (CREATE, HIGHEST, LIST_RATINGS, LOWEST, MAX_DEFICIENCY, add_machine, ask, ask_shop, listed,
                    neighbours, remove_machine, remove_mould, set_mould)
from shops import drawn_shops, small_shops

MACHINES = [(300, 450), (120, 300)]
MOULDS = [(100, 280), (250, 400), (110, 300)]
RISING = [(1, 1), (2, 2), (3, 3), (4, 4), (5, 5)]


def deficiency(machines, moulds):
    return ask_shop(machines, moulds, MAX_DEFICIENCY)[0]


def neighbours_found(machines, moulds, chosen):
    return ask_shop(machines, moulds, neighbours(chosen))[0]


class MaxDeficiencyTest(unittest.TestCase):
    def test_example(self):
        self.assertEqual(deficiency(MACHINES, MOULDS), [1, 0, 1, 2])

    def test_ahead_of_create(self):
        self.assertEqual(ask(MAX_DEFICIENCY, CREATE, MAX_DEFICIENCY), [[-11], [0], [0]])

    def test_nothing_there(self):
        self.assertEqual(deficiency([], []), [0])

    def test_no_machines(self):
        for mould_count in range(1, 6):
            self.assertEqual(deficiency([], [(1, 1)] * mould_count), [mould_count, *range(mould_count)])

    def test_no_moulds(self):
        for machine_count in range(1, 6):
            self.assertEqual(deficiency([(1, 1)] * machine_count, []), [0])

    def test_none_is_short_of_machines(self):
        self.assertEqual(deficiency([(5, 5)], [(5, 5)]), [0])
        self.assertEqual(deficiency(MACHINES, MOULDS[:2]), [0])
        self.assertEqual(deficiency([(5, 5)] * 5, [(5, 5)] * 5), [0])
        self.assertEqual(deficiency(RISING, RISING), [0])
        self.assertEqual(deficiency([(5, 5)] * 5, [(1, 1)]), [0])

    def test_moulds_that_fit_no_machine(self):
        self.assertEqual(deficiency([(5, 5)], [(6, 5)]), [1, 0])
        self.assertEqual(deficiency([(5, 5)] * 5, [(5, 6), (1, 1), (6, 5), (1, 1), (6, 6)]), [3, 0, 2, 4])

    def test_equal_ratings(self):
        self.assertEqual(deficiency([(5, 5)], [(5, 5)] * 5), [4, 0, 1, 2, 3, 4])
        self.assertEqual(deficiency([(5, 5)] * 4, [(5, 5)] * 5), [1, 0, 1, 2, 3, 4])

    def test_only_some_are_short_of_machines(self):
        # Moulds 1 and 3 share the one broad machine.
        machines = [(9, 1), (1, 9), (9, 1)]
        self.assertEqual(deficiency(machines, [(9, 1), (1, 9), (9, 1), (1, 9)]), [1, 1, 3])

    def test_tie_goes_to_the_smaller_bitmask(self):
        # Deficiency 1: moulds 0 and 1 on machine 0, and so are all three moulds on both machines.
        machines = [(9, 1), (1, 9)]
        moulds = [(9, 1), (9, 1), (1, 9)]
        table = judging.Table(machines, moulds)
        ties = [chosen for chosen in map(judging.members, range(8)) if judging.deficiency_of(table, chosen) == 1]
        self.assertEqual(ties, [[0, 1], [0, 1, 2]])
        self.assertEqual(deficiency(machines, moulds), [1, 0, 1])
        self.assertEqual(deficiency(machines, moulds[::-1]), [1, 1, 2])

    def test_tie_with_a_mould_ahead_of_the_set(self):
        # The moulds ahead, which can all run, could join the set without changing its deficiency.
        self.assertEqual(deficiency([(5, 5)], [(5, 5), (6, 6)]), [1, 1])
        self.assertEqual(deficiency([(5, 5), (5, 5)], [(5, 5), (5, 5), (6, 6)]), [1, 2])

    def test_five_of_each(self):
        self.assertEqual(deficiency(RISING, [(5, 5)] * 5), [4, 0, 1, 2, 3, 4])
        self.assertEqual(deficiency(RISING, [(4, 4), (5, 5), (4, 4), (5, 5), (1, 1)]), [2, 0, 1, 2, 3])

    def test_follows_each_change(self):
        got = ask_shop(MACHINES, MOULDS, add_machine(1, 1), MAX_DEFICIENCY, remove_mould(0), MAX_DEFICIENCY,
                       set_mould(1, 300, 450), MAX_DEFICIENCY, remove_machine(0), MAX_DEFICIENCY)
        self.assertEqual(got, [[2], [1, 0, 1, 2], [2], [0], [0, 110, 300], [1, 0, 1], [2], [2, 0, 1]])

    def test_every_small_shop(self):
        for machines, moulds in small_shops():
            wanted = judging.max_deficiency(judging.Table(machines, moulds))
            self.assertEqual(deficiency(machines, moulds), wanted, (machines, moulds))

    def test_drawn_shops(self):
        for machines, moulds in drawn_shops(41, 500):
            wanted = judging.max_deficiency(judging.Table(machines, moulds))
            self.assertEqual(deficiency(machines, moulds), wanted, (machines, moulds))


class NeighboursTest(unittest.TestCase):
    def test_of_each_set(self):
        for chosen, wanted in (([], [0]), ([0], [2, 0, 1]), ([1], [1, 0]), ([2], [2, 0, 1]), ([1, 2], [2, 0, 1]),
                               ([0, 1, 2], [2, 0, 1])):
            with self.subTest(chosen=chosen):
                self.assertEqual(neighbours_found(MACHINES, MOULDS, chosen), wanted)

    def test_ahead_of_create(self):
        for chosen in ([], [0], [-1], [HIGHEST] * 70):
            self.assertEqual(ask(neighbours(chosen)), [[-11]])

    def test_in_ascending_order_whatever_the_order_of_the_moulds(self):
        machines = [(9, 1), (1, 9), (9, 1), (1, 9), (5, 5)]
        moulds = [(1, 9), (9, 1), (5, 5)]
        for chosen in ([0, 1], [1, 0]):
            self.assertEqual(neighbours_found(machines, moulds, chosen), [4, 0, 1, 2, 3])
        for chosen in ([2, 1, 0], [1, 2, 0], [0, 1, 2], [0, 2, 1]):
            self.assertEqual(neighbours_found(machines, moulds, chosen), [5, 0, 1, 2, 3, 4])
        self.assertEqual(neighbours_found(machines, moulds, [2, 1]), [3, 0, 2, 4])

    def test_each_machine_is_told_once(self):
        self.assertEqual(neighbours_found([(5, 5)], [(5, 5)] * 5, [4, 2, 0, 1, 3]), [1, 0])

    def test_none(self):
        self.assertEqual(neighbours_found([(5, 5)] * 5, [(6, 5), (5, 6)], [0, 1]), [0])
        self.assertEqual(neighbours_found([], MOULDS, [0, 1, 2]), [0])

    def test_empty_list(self):
        for machines, moulds in (([], []), (MACHINES, []), ([], MOULDS), (MACHINES, MOULDS)):
            self.assertEqual(neighbours_found(machines, moulds, []), [0])

    def test_five_of_each(self):
        self.assertEqual(neighbours_found(RISING, RISING, [4]), [1, 4])
        self.assertEqual(neighbours_found(RISING, RISING, [4, 2]), [3, 2, 3, 4])
        self.assertEqual(neighbours_found(RISING, RISING, [0, 1, 2, 3, 4]), [5, 0, 1, 2, 3, 4])

    def check_refused(self, machines, moulds, chosen):
        with self.subTest(chosen=chosen):
            got = ask_shop(machines, moulds, LIST_RATINGS, neighbours(chosen), LIST_RATINGS)
            self.assertEqual(got, [listed(machines, moulds), [-22], listed(machines, moulds)])

    def test_wrong_index(self):
        for wrong in (-1, -2, 3, 4, LOWEST, HIGHEST):
            for chosen in ([wrong], [0, wrong], [wrong, 0], [0, 1, 2, wrong]):
                self.check_refused(MACHINES, MOULDS, chosen)

    def test_index_twice(self):
        for chosen in ([0, 0], [2, 2], [0, 1, 0], [1, 0, 2, 1], [1, 1, 1]):
            self.check_refused(MACHINES, MOULDS, chosen)

    def test_index_of_a_machine_that_is_no_mould(self):
        self.check_refused(MACHINES, MOULDS[:1], [1])
        self.assertEqual(neighbours_found(MACHINES[:1], MOULDS, [2]), [1, 0])

    def test_no_moulds(self):
        for wrong in (-1, 0, 1):
            self.check_refused(MACHINES, [], [wrong])
            self.check_refused([], [], [wrong])

    def test_seventy_numbers(self):
        for row in ([0] * 70, list(range(70)), [LOWEST] * 70, [0, 1, 2] + [HIGHEST] * 67):
            self.check_refused(MACHINES, MOULDS, row)

    def test_edges_of_the_moulds(self):
        for mould_count in range(1, 6):
            moulds = [(5, 5)] * mould_count
            self.assertEqual(neighbours_found([(5, 5)], moulds, [mould_count - 1]), [1, 0])
            self.check_refused([(5, 5)], moulds, [mould_count])

    def test_drawn_shops(self):
        chooser = random.Random(42)
        for machines, moulds in drawn_shops(42, 200):
            table = judging.Table(machines, moulds)
            chosen = [judging.members(mask) for mask in range(2 ** len(moulds))]
            for row in chosen:
                chooser.shuffle(row)
            got = ask_shop(machines, moulds, *[neighbours(row) for row in chosen])
            found = [judging.neighbours_of(table, row) for row in chosen]
            self.assertEqual(got, [[len(row), *row] for row in found], (machines, moulds, chosen))


if __name__ == "__main__":
    unittest.main()
