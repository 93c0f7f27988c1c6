"""What the queries are to answer, by the document's definitions alone: everything is tried.

What is due depends only on which mould fits which machine, so each such table
is worked out once.
"""

import functools
import itertools


class Table:
    """The numbers of machines and moulds, and the pairs of a mould and a machine that it fits."""

    def __init__(self, machines, moulds):
        self.machine_count = len(machines)
        self.mould_count = len(moulds)
        self.pairs = frozenset((i, j) for i, mould in enumerate(moulds) for j, machine in enumerate(machines)
                               if mould[0] <= machine[0] and mould[1] <= machine[1])

    def key(self):
        return (self.machine_count, self.mould_count, self.pairs)

    def __eq__(self, other):
        return self.key() == other.key()

    def __hash__(self):
        return hash(self.key())


def members(mask):
    """The set with this bitmask, in ascending order."""
    return [i for i in range(mask.bit_length()) if mask >> i & 1]


def size_of(entries):
    return sum(entry != -1 for entry in entries)


def is_valid(table, entries):
    taken = [entry for entry in entries if entry != -1]
    fit = all(entry == -1 or (i, entry) in table.pairs for i, entry in enumerate(entries))
    return fit and all(taken.count(entry) == 1 for entry in taken)


def all_entries(table):
    """Every list of entries, valid or not."""
    return itertools.product(range(-1, table.machine_count), repeat=table.mould_count)


def is_cover(table, moulds, machines):
    return all(i in moulds or j in machines for i, j in table.pairs)


def neighbours_of(table, moulds):
    return sorted({j for i, j in table.pairs if i in moulds})


def deficiency_of(table, moulds):
    return max(0, len(moulds) - len(neighbours_of(table, moulds)))


@functools.cache
def best_assignment(table):
    valid = [entries for entries in all_entries(table) if is_valid(table, entries)]
    size = max(map(size_of, valid))
    largest = [entries for entries in valid if size_of(entries) == size]
    best = min(largest, key=lambda entries: [table.machine_count if entry == -1 else entry for entry in entries])
    return [size, *best]


@functools.cache
def minimum_cover(table):
    masks = itertools.product(range(2 ** table.mould_count), range(2 ** table.machine_count))
    covers = [(mould_mask, machine_mask) for mould_mask, machine_mask in masks
              if is_cover(table, members(mould_mask), members(machine_mask))]
    size = min(len(members(mould_mask) + members(machine_mask)) for mould_mask, machine_mask in covers)
    best = min((mould_mask, machine_mask) for mould_mask, machine_mask in covers
               if len(members(mould_mask) + members(machine_mask)) == size)
    return [size, len(members(best[0])), *members(best[0]), *members(best[1])]


@functools.cache
def max_deficiency(table):
    found = [deficiency_of(table, members(mask)) for mask in range(2 ** table.mould_count)]
    if max(found) == 0:
        return [0]
    return [max(found), *members(found.index(max(found)))]


def max_running(table):
    return best_assignment(table)[0]


def due(machines, moulds):
    """What max_running, best_assignment, minimum_cover and max_deficiency are to answer."""
    table = Table(machines, moulds)
    return [[max_running(table)], best_assignment(table), minimum_cover(table), max_deficiency(table)]


def due_without(machines, moulds, j):
    """What max_running_without is to answer."""
    return max_running(Table(machines[:j] + machines[j + 1:], moulds))


def due_of_each(machines, moulds):
    """Further queries with rows and indices for this shop, each with what it is to answer."""
    table = Table(machines, moulds)
    found = []
    for i in range(len(moulds)):
        near = neighbours_of(table, [i])
        found.append(((14, 1, i), [len(near), *near]))
        found.extend(((7, i, j), [int((i, j) in table.pairs)]) for j in range(len(machines)))
    for j in range(len(machines)):
        found.append(((15, j), [due_without(machines, moulds, j)]))
        entries = [j] * len(moulds)
        found.append(((12, len(moulds), *entries), [int(is_valid(table, entries)), len(moulds)]))
        others = [other for other in range(len(machines)) if other != j]
        found.append(((13, 0, len(others), *others), [int(is_cover(table, [], others)), len(others)]))
    return found
