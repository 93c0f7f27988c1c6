"""Calls 7 and 8: fits and max_running."""

import itertools
import random
import unittest

from asking import (CREATE, HIGHEST, LOWEST, MAX_RUNNING, add_machine, add_mould, ask, ask_shop, fits,
                    remove_machine, reveal, revealed, set_machine)

MACHINES = [(300, 450), (120, 300)]
MOULDS = [(100, 280), (250, 400), (110, 300)]


def most_running(machines, moulds):
    """The maximum size of a valid assignment, found by trying every order of the machines.

    Each mould is given one place of the order; places behind the last machine stand for none.
    """
    best = 0
    for order in itertools.permutations(range(len(machines) + len(moulds)), len(moulds)):
        size = 0
        for mould, place in zip(moulds, order):
            if place < len(machines):
                machine = machines[place]
                size += mould[0] <= machine[0] and mould[1] <= machine[1]
        best = max(best, size)
    return best


def running(machines, moulds):
    return ask_shop(machines, moulds, MAX_RUNNING)[0]


class FitsTest(unittest.TestCase):
    def test_compares_both_numbers(self):
        cases = [((100, 200), 1), ((101, 201), 1), ((999, 999), 1), ((100, 201), 1), ((101, 200), 1),
                 ((99, 200), 0), ((100, 199), 0), ((99, 199), 0), ((99, 999), 0), ((999, 199), 0), ((200, 100), 0)]
        for machine, wanted in cases:
            with self.subTest(machine=machine):
                self.assertEqual(ask_shop([machine], [(100, 200)], fits(0, 0)), [[wanted]])

    def test_smallest_and_largest_ratings(self):
        ratings = [(1, 1), (999, 999)]
        got = ask_shop(ratings, ratings, fits(0, 0), fits(0, 1), fits(1, 0), fits(1, 1))
        self.assertEqual(got, [[1], [1], [0], [1]])

    def test_the_mould_comes_first(self):
        pairs = list(itertools.product(range(3), range(2)))
        got = ask_shop(MACHINES, MOULDS, *[fits(i, j) for i, j in pairs])
        self.assertEqual(got, [[1], [1], [1], [0], [1], [1]])

    def test_wrong_index(self):
        wrong = [(-1, 0), (0, -1), (3, 0), (0, 2), (2, 2), (3, 1), (-1, -1), (3, 2)]
        wrong += [(LOWEST, 0), (HIGHEST, 0), (0, LOWEST), (0, HIGHEST)]
        for i, j in wrong:
            with self.subTest(i=i, j=j):
                got = ask_shop(MACHINES, MOULDS, fits(i, j), *reveal(2, 3))
                self.assertEqual(got, [[-2], *revealed(MACHINES, MOULDS)])

    def test_last_indices(self):
        self.assertEqual(ask_shop(MACHINES, MOULDS, fits(2, 1)), [[1]])

    def test_nothing_there(self):
        self.assertEqual(ask(CREATE, fits(0, 0)), [[0], [-2]])
        self.assertEqual(ask_shop(MACHINES, [], fits(0, 0)), [[-2]])
        self.assertEqual(ask_shop([], MOULDS, fits(0, 0)), [[-2]])

    def test_indices_after_a_removal(self):
        got = ask_shop(MACHINES, MOULDS, fits(1, 0), remove_machine(0), fits(1, 0), fits(0, 0), fits(0, 1))
        self.assertEqual(got, [[1], [1], [0], [1], [-2]])

    def test_after_a_new_rating(self):
        got = ask_shop(MACHINES, MOULDS, set_machine(1, 250, 400), fits(1, 1))
        self.assertEqual(got, [[0, 120, 300], [1]])

    def test_leaves_the_instance(self):
        got = ask_shop(MACHINES, MOULDS, fits(1, 1), fits(0, 0), *reveal(2, 3))
        self.assertEqual(got, [[0], [1], *revealed(MACHINES, MOULDS)])


class MaxRunningTest(unittest.TestCase):
    def test_nothing_there(self):
        self.assertEqual(ask(CREATE, MAX_RUNNING), [[0], [0]])

    def test_no_machines(self):
        self.assertEqual(running([], MOULDS), [0])

    def test_no_moulds(self):
        self.assertEqual(running(MACHINES, []), [0])

    def test_one_of_each(self):
        self.assertEqual(running([(5, 5)], [(5, 5)]), [1])
        self.assertEqual(running([(5, 5)], [(6, 5)]), [0])

    def test_more_moulds_than_machines(self):
        self.assertEqual(running(MACHINES, MOULDS), [2])
        self.assertEqual(running([(9, 9)], [(1, 1)] * 5), [1])

    def test_more_machines_than_moulds(self):
        self.assertEqual(running([(9, 9)] * 5, [(1, 1)] * 2), [2])
        self.assertEqual(running([(1, 9), (9, 1), (8, 8)], [(2, 2), (2, 2)]), [1])

    def test_five_of_each(self):
        self.assertEqual(running([(9, 9)] * 5, [(9, 9)] * 5), [5])

    def test_first_fitting_machine_is_left_to_another_mould(self):
        self.assertEqual(running([(300, 450), (120, 300)], [(100, 280), (250, 400)]), [2])

    def test_every_mould_must_move_on(self):
        # Each mould takes the first machine, until the next one needs just that.
        machines = [(50, 50), (40, 40), (30, 30), (20, 20), (10, 10)]
        moulds = [(10, 10), (20, 20), (30, 30), (40, 40), (50, 50)]
        self.assertEqual(running(machines, moulds), [5])

    def test_moulds_move_along_a_chain(self):
        # Mould i fits machines i and i + 1; the last mould fits only machine 0.
        machines = [(50, 10), (40, 20), (30, 30), (20, 40), (10, 50)]
        moulds = [(40, 10), (30, 20), (20, 30), (10, 40), (50, 10)]
        self.assertEqual(running(machines, moulds), [5])

    def test_a_mould_without_a_machine_between_others(self):
        self.assertEqual(running([(5, 5), (6, 6)], [(1, 1), (7, 7), (1, 1)]), [2])

    def test_every_small_shop(self):
        ratings = list(itertools.product((1, 2), (1, 2)))
        for machine_count, mould_count in itertools.product(range(4), range(4)):
            for machines in itertools.combinations_with_replacement(ratings, machine_count):
                for moulds in itertools.product(ratings, repeat=mould_count):
                    wanted = most_running(machines, moulds)
                    self.assertEqual(running(machines, moulds), [wanted], (machines, moulds))

    def test_larger_shops(self):
        chooser = random.Random(5)
        for shop_number in range(60):
            counts = [chooser.randrange(3, 6), chooser.randrange(3, 6)]
            machines, moulds = [[(chooser.randrange(1, 7), chooser.randrange(1, 7)) for place in range(count)]
                                for count in counts]
            wanted = most_running(machines, moulds)
            self.assertEqual(running(machines, moulds), [wanted], (machines, moulds))

    def test_follows_each_change(self):
        got = ask(CREATE, MAX_RUNNING, add_mould(5, 5), MAX_RUNNING, add_machine(4, 9), MAX_RUNNING,
                  set_machine(0, 5, 5), MAX_RUNNING, remove_machine(0), MAX_RUNNING)
        self.assertEqual(got, [[0], [0], [0], [0], [0], [0], [0, 4, 9], [1], [0], [0]])

    def test_leaves_the_instance(self):
        got = ask_shop(MACHINES, MOULDS, MAX_RUNNING, MAX_RUNNING, *reveal(2, 3))
        self.assertEqual(got, [[2], [2], *revealed(MACHINES, MOULDS)])

    def test_a_better_machine_never_runs_fewer(self):
        chooser = random.Random(6)
        for shop_number in range(40):
            machines, moulds = [[(chooser.randrange(1, 7), chooser.randrange(1, 7)) for place in range(5)]
                                for side in range(2)]
            before = running(machines, moulds)[0]
            for j, (clamp_force, platen_size) in enumerate(machines):
                for better in ((clamp_force + 1, platen_size), (clamp_force, platen_size + 1), (999, 999)):
                    after = ask_shop(machines, moulds, set_machine(j, *better), MAX_RUNNING)[1][0]
                    self.assertGreaterEqual(after, before, (machines, moulds, j, better))

    def test_without_a_machine_runs_at_most_one_fewer(self):
        chooser = random.Random(7)
        for shop_number in range(40):
            machines, moulds = [[(chooser.randrange(1, 7), chooser.randrange(1, 7)) for place in range(5)]
                                for side in range(2)]
            before = running(machines, moulds)[0]
            for j in range(5):
                after = ask_shop(machines, moulds, remove_machine(j), MAX_RUNNING)[1][0]
                self.assertIn(after, (before - 1, before), (machines, moulds, j))


if __name__ == "__main__":
    unittest.main()
