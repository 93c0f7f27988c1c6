"""Calls 0 to 6: create, and adding, removing and setting machines and moulds."""

import unittest

from asking import (CREATE, HIGHEST, LOWEST, MAX_RUNNING, add_machine, add_mould, ask, ask_shop, fits,
                    remove_machine, remove_mould, reveal, revealed, set_machine, set_mould)

MACHINES = [(300, 450), (120, 300), (500, 700)]
MOULDS = [(100, 280), (250, 400), (110, 310)]
FIVE = [(10, 20), (30, 40), (50, 60), (70, 80), (90, 100)]
WRONG_RATINGS = [(bad, 280) for bad in (0, 1000, -1, LOWEST, HIGHEST)]
WRONG_RATINGS += [(280, bad) for bad in (0, 1000, -1, LOWEST, HIGHEST)]
WRONG_RATINGS += [(0, 1000), (LOWEST, HIGHEST)]
EDGE_RATINGS = [(1, 1), (999, 999), (1, 999), (999, 1)]


class CreateTest(unittest.TestCase):
    def test_answers_zero_and_holds_nothing(self):
        self.assertEqual(ask(CREATE, MAX_RUNNING, *reveal(0, 0)), [[0], [0], [-2], [-2]])

    def test_replaces_the_instance(self):
        got = ask_shop(MACHINES, MOULDS, CREATE, fits(0, 0), MAX_RUNNING, add_machine(7, 8), add_mould(5, 6),
                       *reveal(1, 1))
        self.assertEqual(got, [[0], [-2], [0], [0], [0], *revealed([(7, 8)], [(5, 6)])])

    def test_each_of_several_in_a_row(self):
        self.assertEqual(ask(CREATE, CREATE, add_mould(1, 1), CREATE, add_mould(1, 1)), [[0], [0], [0], [0], [0]])


class AddTest(unittest.TestCase):
    def check(self, call, keep):
        """The answers of adding, with `keep` to tell the state that the ratings make."""
        answered = ask(CREATE, *[call(*rating) for rating in FIVE], *reveal(*map(len, keep(FIVE))))
        self.assertEqual(answered, [[0], [0], [1], [2], [3], [4], *revealed(*keep(FIVE))])

    def check_range(self, call, keep):
        for rating in EDGE_RATINGS:
            with self.subTest(rating=rating):
                got = ask(CREATE, call(*rating), *reveal(*map(len, keep([rating]))))
                self.assertEqual(got, [[0], [0], *revealed(*keep([rating]))])
        for rating in WRONG_RATINGS:
            with self.subTest(rating=rating):
                got = ask(CREATE, call(4, 5), call(*rating), *reveal(*map(len, keep([(4, 5)]))))
                self.assertEqual(got, [[0], [0], [-22], *revealed(*keep([(4, 5)]))])

    def check_full(self, call, keep):
        calls = [CREATE, *[call(*rating) for rating in FIVE], call(1, 1), call(999, 999)]
        calls += [call(*rating) for rating in WRONG_RATINGS]
        got = ask(*calls, *reveal(*map(len, keep(FIVE))))[6:]
        wanted = [[-28], [-28], *[[-22] for rating in WRONG_RATINGS], *revealed(*keep(FIVE))]
        self.assertEqual(got, wanted)

    def test_machines_are_appended(self):
        self.check(add_machine, lambda ratings: (ratings, []))

    def test_moulds_are_appended(self):
        self.check(add_mould, lambda ratings: ([], ratings))

    def test_range_of_a_machine(self):
        self.check_range(add_machine, lambda ratings: (ratings, []))

    def test_range_of_a_mould(self):
        self.check_range(add_mould, lambda ratings: ([], ratings))

    def test_sixth_machine(self):
        self.check_full(add_machine, lambda ratings: (ratings, []))

    def test_sixth_mould(self):
        self.check_full(add_mould, lambda ratings: ([], ratings))

    def test_machines_and_moulds_are_counted_apart(self):
        got = ask_shop(FIVE, FIVE[:4], add_machine(1, 1), add_mould(2, 3), add_mould(4, 5), *reveal(5, 5))
        self.assertEqual(got, [[-28], [4], [-28], *revealed(FIVE, FIVE[:4] + [(2, 3)])])

    def test_equal_ratings_are_kept_twice(self):
        got = ask_shop([], [], add_machine(9, 9), add_machine(9, 9), *reveal(2, 0))
        self.assertEqual(got, [[0], [1], *revealed([(9, 9), (9, 9)], [])])

    def test_room_again_after_a_removal(self):
        got = ask_shop(FIVE, FIVE, remove_machine(0), add_machine(6, 7), add_machine(8, 9),
                       remove_mould(4), add_mould(2, 3), add_mould(4, 5), *reveal(5, 5))
        wanted = [[4], [4], [-28], [4], [4], [-28], *revealed(FIVE[1:] + [(6, 7)], FIVE[:4] + [(2, 3)])]
        self.assertEqual(got, wanted)


class RemoveTest(unittest.TestCase):
    def test_machines_behind_move_down(self):
        for j in range(3):
            with self.subTest(j=j):
                left = MACHINES[:j] + MACHINES[j + 1:]
                got = ask_shop(MACHINES, MOULDS, remove_machine(j), *reveal(2, 3))
                self.assertEqual(got, [[2], *revealed(left, MOULDS)])

    def test_moulds_behind_move_down(self):
        for i in range(3):
            with self.subTest(i=i):
                left = MOULDS[:i] + MOULDS[i + 1:]
                got = ask_shop(MACHINES, MOULDS, remove_mould(i), *reveal(3, 2))
                self.assertEqual(got, [[2], *revealed(MACHINES, left)])

    def test_down_to_none(self):
        got = ask_shop(MACHINES, MOULDS, remove_machine(0), remove_machine(0), remove_machine(0), remove_machine(0),
                       remove_mould(2), remove_mould(1), remove_mould(0), remove_mould(0), *reveal(0, 0))
        self.assertEqual(got, [[2], [1], [0], [-2], [2], [1], [0], [-2], *revealed([], [])])

    def test_wrong_index(self):
        for index in (-1, 3, 4, -3, LOWEST, HIGHEST):
            with self.subTest(index=index):
                got = ask_shop(MACHINES, MOULDS, remove_machine(index), remove_mould(index), *reveal(3, 3))
                self.assertEqual(got, [[-2], [-2], *revealed(MACHINES, MOULDS)])

    def test_wrong_index_in_the_longer_and_the_shorter_list(self):
        got = ask_shop(MACHINES, MOULDS[:1], remove_mould(1), remove_machine(1), *reveal(2, 1))
        self.assertEqual(got, [[-2], [2], *revealed([MACHINES[0], MACHINES[2]], MOULDS[:1])])
        got = ask_shop(MACHINES[:1], MOULDS, remove_machine(1), remove_mould(1), *reveal(1, 2))
        self.assertEqual(got, [[-2], [2], *revealed(MACHINES[:1], [MOULDS[0], MOULDS[2]])])

    def test_none_there(self):
        for index in (-1, 0, 1):
            self.assertEqual(ask(CREATE, remove_machine(index), remove_mould(index)), [[0], [-2], [-2]])


class SetTest(unittest.TestCase):
    def test_machine_is_replaced_in_its_place(self):
        for j in range(3):
            for rating in EDGE_RATINGS:
                with self.subTest(j=j, rating=rating):
                    now = MACHINES[:j] + [rating] + MACHINES[j + 1:]
                    got = ask_shop(MACHINES, MOULDS, set_machine(j, *rating), *reveal(3, 3))
                    self.assertEqual(got, [[0, *MACHINES[j]], *revealed(now, MOULDS)])

    def test_mould_is_replaced_in_its_place(self):
        for i in range(3):
            for rating in EDGE_RATINGS:
                with self.subTest(i=i, rating=rating):
                    now = MOULDS[:i] + [rating] + MOULDS[i + 1:]
                    got = ask_shop(MACHINES, MOULDS, set_mould(i, *rating), *reveal(3, 3))
                    self.assertEqual(got, [[0, *MOULDS[i]], *revealed(MACHINES, now)])

    def test_twice_in_a_row(self):
        got = ask_shop(MACHINES, MOULDS, set_machine(1, 8, 9), set_machine(1, 10, 11), set_mould(2, 6, 7),
                       set_mould(2, 12, 13))
        self.assertEqual(got, [[0, 120, 300], [0, 8, 9], [0, 110, 310], [0, 6, 7]])

    def test_wrong_rating(self):
        for rating in WRONG_RATINGS:
            with self.subTest(rating=rating):
                got = ask_shop(MACHINES, MOULDS, set_machine(2, *rating), set_mould(0, *rating), *reveal(3, 3))
                self.assertEqual(got, [[-22], [-22], *revealed(MACHINES, MOULDS)])

    def test_wrong_index(self):
        for index in (-1, 3, 4, -3, LOWEST, HIGHEST):
            with self.subTest(index=index):
                got = ask_shop(MACHINES, MOULDS, set_machine(index, 5, 5), set_mould(index, 5, 5), *reveal(3, 3))
                self.assertEqual(got, [[-2], [-2], *revealed(MACHINES, MOULDS)])

    def test_wrong_index_comes_before_wrong_rating(self):
        for index in (-1, 3, LOWEST, HIGHEST):
            for rating in WRONG_RATINGS:
                with self.subTest(index=index, rating=rating):
                    got = ask_shop(MACHINES, MOULDS, set_machine(index, *rating), set_mould(index, *rating),
                                   *reveal(3, 3))
                    self.assertEqual(got, [[-2], [-2], *revealed(MACHINES, MOULDS)])

    def test_wrong_index_in_the_longer_and_the_shorter_list(self):
        got = ask_shop(MACHINES, MOULDS[:1], set_mould(1, 5, 5), set_machine(1, 5, 6))
        self.assertEqual(got, [[-2], [0, 120, 300]])
        got = ask_shop(MACHINES[:1], MOULDS, set_machine(1, 5, 5), set_mould(1, 5, 6))
        self.assertEqual(got, [[-2], [0, 250, 400]])


if __name__ == "__main__":
    unittest.main()
