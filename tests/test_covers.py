"""Calls 10 and 13: minimum_cover and check_cover."""

import itertools
import random
import unittest

import judging
from asking import (CREATE, HIGHEST, LIST_RATINGS, LOWEST, MINIMUM_COVER, add_mould, ask, ask_shop, check_cover,
                    listed, remove_machine, remove_mould, set_mould)
from shops import drawn_shops, small_shops

MACHINES = [(300, 450), (120, 300)]
MOULDS = [(100, 280), (250, 400), (110, 300)]
RISING = [(1, 1), (2, 2), (3, 3), (4, 4), (5, 5)]
# Neither mould fits the machine of the other.
APART = [(1, 9), (9, 1)]


def cover(machines, moulds):
    return ask_shop(machines, moulds, MINIMUM_COVER)[0]


def checked(machines, moulds, chosen, taken):
    return ask_shop(machines, moulds, check_cover(chosen, taken))[0]


def all_covers_asked(table):
    """Every set of moulds with every set of machines, cover or not."""
    masks = itertools.product(range(2 ** table.mould_count), range(2 ** table.machine_count))
    return [(judging.members(mould_mask), judging.members(machine_mask)) for mould_mask, machine_mask in masks]


class MinimumCoverTest(unittest.TestCase):
    def test_example(self):
        self.assertEqual(cover(MACHINES, MOULDS), [2, 0, 0, 1])

    def test_ahead_of_create(self):
        self.assertEqual(ask(MINIMUM_COVER, CREATE, MINIMUM_COVER), [[-11], [0], [0, 0]])

    def test_nothing_there(self):
        self.assertEqual(cover([], []), [0, 0])

    def test_no_machines(self):
        for mould_count in range(1, 6):
            self.assertEqual(cover([], [(1, 1)] * mould_count), [0, 0])

    def test_no_moulds(self):
        for machine_count in range(1, 6):
            self.assertEqual(cover([(999, 999)] * machine_count, []), [0, 0])

    def test_nothing_fits(self):
        self.assertEqual(cover(APART, [(2, 2), (3, 3)]), [0, 0])

    def test_moulds_alone(self):
        # One mould fits three machines.
        self.assertEqual(cover([(5, 5)] * 3, [(5, 5)]), [1, 1, 0])
        self.assertEqual(cover([(5, 5)] * 3, [(6, 6), (5, 5)]), [1, 1, 1])
        self.assertEqual(cover([(5, 5)] * 5, [(5, 5), (6, 6), (5, 5)]), [2, 2, 0, 2])

    def test_machines_alone(self):
        self.assertEqual(cover([(5, 5)], [(5, 5)] * 3), [1, 0, 0])
        self.assertEqual(cover([(4, 4), (5, 5), (4, 4), (5, 5)], [(5, 5)] * 3), [2, 0, 1, 3])

    def test_moulds_and_machines(self):
        # Mould 0 fits machines 0 and 1; moulds 1 to 3 fit machine 2.
        machines = [(1, 9), (1, 9), (9, 1)]
        moulds = [(1, 9), (9, 1), (9, 1), (9, 1)]
        self.assertEqual(cover(machines, moulds), [2, 1, 0, 2])

    def test_several_of_each(self):
        # Moulds 1 and 3 fit all three narrow machines, moulds 0, 2 and 4 the two others.
        machines = [(9, 1), (1, 9), (9, 1), (1, 9), (9, 1)]
        moulds = [(1, 9), (9, 1), (1, 9), (9, 1), (1, 9)]
        self.assertEqual(cover(machines, moulds), [4, 2, 1, 3, 1, 3])

    def test_tie_goes_to_the_machines(self):
        # Any mould or its machine would do: the bitmask of no moulds is the smallest.
        self.assertEqual(cover([(5, 5)], [(5, 5)]), [1, 0, 0])
        self.assertEqual(cover(APART, APART), [2, 0, 0, 1])
        self.assertEqual(cover(RISING, RISING), [5, 0, 0, 1, 2, 3, 4])

    def test_tie_beside_a_mould_that_must_be_in_it(self):
        # Mould 0 fits three machines; then mould 1, or the one machine that it fits.
        machines = [(1, 9), (1, 9), (1, 9), (9, 1)]
        moulds = [(1, 9), (9, 1)]
        table = judging.Table(machines, moulds)
        ties = [rows for rows in all_covers_asked(table)
                if judging.is_cover(table, *rows) and len(rows[0]) + len(rows[1]) == 2]
        self.assertEqual(ties, [([0], [3]), ([0, 1], [])])
        self.assertEqual(cover(machines, moulds), [2, 1, 0, 3])
        self.assertEqual(cover(machines, moulds[::-1]), [2, 1, 1, 3])

    def test_equal_ratings(self):
        self.assertEqual(cover([(5, 5)] * 5, [(5, 5)] * 5), [5, 0, 0, 1, 2, 3, 4])
        self.assertEqual(cover([(5, 5)] * 5, [(5, 5)] * 4), [4, 4, 0, 1, 2, 3])
        self.assertEqual(cover([(5, 5)] * 4, [(5, 5)] * 5), [4, 0, 0, 1, 2, 3])

    def test_follows_each_change(self):
        got = ask_shop(MACHINES, MOULDS, remove_mould(0), remove_mould(0), MINIMUM_COVER, add_mould(250, 400),
                       MINIMUM_COVER, set_mould(0, 999, 999), MINIMUM_COVER, remove_machine(0), MINIMUM_COVER)
        self.assertEqual(got, [[2], [1], [1, 1, 0], [1], [2, 0, 0, 1], [0, 110, 300], [1, 0, 0], [1], [0, 0]])

    def test_every_small_shop(self):
        for machines, moulds in small_shops():
            wanted = judging.minimum_cover(judging.Table(machines, moulds))
            self.assertEqual(cover(machines, moulds), wanted, (machines, moulds))

    def test_drawn_shops(self):
        for machines, moulds in drawn_shops(32, 500):
            wanted = judging.minimum_cover(judging.Table(machines, moulds))
            self.assertEqual(cover(machines, moulds), wanted, (machines, moulds))


class CheckCoverTest(unittest.TestCase):
    def test_covers(self):
        for chosen, taken in (([], [0, 1]), ([], [1, 0]), ([0, 1, 2], []), ([2, 1, 0], []), ([0, 2], [0]),
                              ([1, 0, 2], [1, 0])):
            with self.subTest(chosen=chosen, taken=taken):
                self.assertEqual(checked(MACHINES, MOULDS, chosen, taken), [1, len(chosen) + len(taken)])

    def test_no_covers(self):
        for chosen, taken in (([], []), ([0], [0]), ([0, 1], [0]), ([0, 2], [1]), ([], [0]), ([], [1]), ([1], [0]),
                              ([1, 2], [1])):
            with self.subTest(chosen=chosen, taken=taken):
                self.assertEqual(checked(MACHINES, MOULDS, chosen, taken), [0, len(chosen) + len(taken)])

    def test_ahead_of_create(self):
        for chosen, taken in (([], []), ([0], [0]), ([-1], [HIGHEST]), ([LOWEST] * 70, [0] * 70)):
            self.assertEqual(ask(check_cover(chosen, taken)), [[-11]])

    def test_empty_lists(self):
        self.assertEqual(checked([], [], [], []), [1, 0])
        self.assertEqual(checked(MACHINES, [], [], []), [1, 0])
        self.assertEqual(checked([], MOULDS, [], []), [1, 0])
        self.assertEqual(checked(APART, [(2, 2)], [], []), [1, 0])
        self.assertEqual(checked([(5, 5)], [(5, 5)], [], []), [0, 0])

    def test_more_than_needed(self):
        self.assertEqual(checked(MACHINES, [], [], [0, 1]), [1, 2])
        self.assertEqual(checked([], MOULDS, [2, 0], []), [1, 2])
        self.assertEqual(checked([(5, 5)] * 5, [(5, 5)] * 5, [4, 3, 2, 1, 0], [0, 1, 2, 3, 4]), [1, 10])

    def test_five_of_each(self):
        self.assertEqual(checked(RISING, RISING, [], [4, 2, 0, 1, 3]), [1, 5])
        self.assertEqual(checked(RISING, RISING, [0, 1], [4, 3, 2]), [1, 5])
        self.assertEqual(checked(RISING, RISING, [0, 2], [4, 3, 2]), [0, 5])

    def check_refused(self, machines, moulds, chosen, taken):
        with self.subTest(chosen=chosen, taken=taken):
            got = ask_shop(machines, moulds, LIST_RATINGS, check_cover(chosen, taken), LIST_RATINGS)
            self.assertEqual(got, [listed(machines, moulds), [-22], listed(machines, moulds)])

    def test_wrong_mould(self):
        for wrong in (-1, -2, 3, 4, LOWEST, HIGHEST):
            for chosen in ([wrong], [0, wrong], [wrong, 0], [0, 1, 2, wrong]):
                for taken in ([], [0], [0, 1]):
                    self.check_refused(MACHINES, MOULDS, chosen, taken)

    def test_wrong_machine(self):
        for wrong in (-1, -2, 2, 3, LOWEST, HIGHEST):
            for taken in ([wrong], [0, wrong], [wrong, 0], [0, 1, wrong]):
                for chosen in ([], [0], [0, 1, 2]):
                    self.check_refused(MACHINES, MOULDS, chosen, taken)

    def test_index_twice(self):
        for chosen, taken in (([0, 0], []), ([2, 2], [0, 1]), ([0, 1, 0], []), ([0, 1, 2, 0], []), ([], [0, 0]),
                              ([0, 1, 2], [1, 1]), ([], [0, 1, 0]), ([], [1, 0, 1]), ([1, 1], [1, 1])):
            self.check_refused(MACHINES, MOULDS, chosen, taken)

    def test_both_lists_wrong(self):
        self.check_refused(MACHINES, MOULDS, [-1], [2])
        self.check_refused(MACHINES, MOULDS, [0, 0], [-1])

    def test_nothing_there(self):
        for wrong in (-1, 0, 1):
            self.check_refused([], MOULDS, [], [wrong])
            self.check_refused(MACHINES, [], [wrong], [])
            self.check_refused([], [], [wrong], [])
            self.check_refused([], [], [], [wrong])

    def test_the_same_index_in_both_lists(self):
        self.assertEqual(checked(MACHINES, MOULDS, [0], [0]), [0, 2])
        self.assertEqual(checked(MACHINES, MOULDS, [1], [1, 0]), [1, 3])

    def test_seventy_numbers(self):
        for row in ([0] * 70, list(range(70)), [LOWEST] * 70, [-1] * 70):
            self.check_refused(MACHINES, MOULDS, row, row)
            self.check_refused(MACHINES, MOULDS, row, [0, 1])
            self.check_refused(MACHINES, MOULDS, [0, 1, 2], row)

    def test_every_pair_of_sets_on_small_shops(self):
        shops = [(MACHINES, MOULDS), (APART + [(9, 9)], [(1, 1), (1, 9), (9, 1)]), (RISING[:3], RISING[1:4]),
                 ([(5, 5)] * 3, [(5, 5)] * 2), ([(5, 5)], []), ([], [(5, 5)])]
        for machines, moulds in shops:
            table = judging.Table(machines, moulds)
            for chosen, taken in all_covers_asked(table):
                wanted = [int(judging.is_cover(table, chosen, taken)), len(chosen) + len(taken)]
                self.assertEqual(checked(machines, moulds, chosen, taken), wanted, (machines, moulds))

    def test_drawn_shops(self):
        chooser = random.Random(33)
        for machines, moulds in drawn_shops(33, 200):
            table = judging.Table(machines, moulds)
            every = all_covers_asked(table)
            chosen = chooser.sample(every, min(len(every), 49))
            for mould_row, machine_row in chosen:
                chooser.shuffle(mould_row)
                chooser.shuffle(machine_row)
            got = ask_shop(machines, moulds, *[check_cover(*rows) for rows in chosen])
            wanted = [[int(judging.is_cover(table, *rows)), len(rows[0]) + len(rows[1])] for rows in chosen]
            self.assertEqual(got, wanted, (machines, moulds, chosen))


if __name__ == "__main__":
    unittest.main()
