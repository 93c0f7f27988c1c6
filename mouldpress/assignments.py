"""Assignments: one entry for each mould, the machine that it runs on."""

from mouldpress.matching import count_running, fits, fitting_machines

NOT_RUNNING = -1


def running_machines(entries):
    """The machines of the entries, in the order of the moulds."""
    return [entry for entry in entries if entry != NOT_RUNNING]


def assignment_size(entries):
    return len(running_machines(entries))


def is_valid(entries, moulds, machines):
    """True if each mould fits its machine and no machine runs two moulds."""
    running = running_machines(entries)
    if len(set(running)) < len(running):
        return False
    for i, j in enumerate(entries):
        if j != NOT_RUNNING and not fits(moulds[i], machines[j]):
            return False
    return True


def largest_size_with(entries, moulds, machines):
    """The maximum size of a valid assignment whose first entries are these."""
    free = [machine for j, machine in enumerate(machines) if j not in entries]
    return assignment_size(entries) + count_running(moulds[len(entries):], free)


def next_best_entry(entries, size, moulds, machines):
    """The entry of the best assignment that stands behind these first ones.

    Where no machine leaves the maximum size in reach, the mould doesn't run:
    -1 counts as greater than every machine.
    """
    for j in fitting_machines(moulds[len(entries)], machines):
        if j not in entries and largest_size_with(entries + [j], moulds, machines) == size:
            return j
    return NOT_RUNNING


def best_assignment(moulds, machines):
    """The entries of the lexicographically smallest valid assignment of maximum size."""
    size = count_running(moulds, machines)
    entries = []
    while len(entries) < len(moulds):
        entries.append(next_best_entry(entries, size, moulds, machines))
    return entries
