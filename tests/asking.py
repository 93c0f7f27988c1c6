"""How the tests hand in calls and take the answers apart."""

from mouldpress.shop import answers

CREATE = (0,)
MAX_RUNNING = (8,)
BEST_ASSIGNMENT = (9,)
MINIMUM_COVER = (10,)
MAX_DEFICIENCY = (11,)
LIST_RATINGS = (16,)
LOWEST = -2147483648
HIGHEST = 2147483647


def add_machine(clamp_force, platen_size):
    return (1, clamp_force, platen_size)


def add_mould(clamp_force, platen_size):
    return (2, clamp_force, platen_size)


def remove_machine(j):
    return (3, j)


def remove_mould(i):
    return (4, i)


def set_machine(j, clamp_force, platen_size):
    return (5, j, clamp_force, platen_size)


def set_mould(i, clamp_force, platen_size):
    return (6, i, clamp_force, platen_size)


def fits(i, j):
    return (7, i, j)


def check_assignment(entries):
    return (12, len(entries), *entries)


def check_cover(moulds, machines):
    return (13, len(moulds), *moulds, len(machines), *machines)


def neighbours(moulds):
    return (14, len(moulds), *moulds)


def max_running_without(j):
    return (15, j)


def flat(calls):
    return [number for call in calls for number in call]


def split(given):
    """The answers, one list a call, out of the list that is given back."""
    found = []
    start = 0
    while start < len(given):
        end = start + 1 + given[start]
        if end > len(given):
            raise AssertionError(f"cut off within an answer: {given}")
        found.append(given[start + 1:end])
        start = end
    return found


def ask(*calls):
    return split(answers(flat(calls)))


def shop(machines, moulds):
    """The calls that build a shop with these ratings."""
    calls = [CREATE]
    calls.extend(add_machine(*rating) for rating in machines)
    calls.extend(add_mould(*rating) for rating in moulds)
    return calls


def ask_shop(machines, moulds, *calls):
    """The answers to the calls on a shop with these ratings."""
    built = shop(machines, moulds)
    return ask(*built, *calls)[len(built):]


def reveal(machine_count, mould_count):
    """Calls whose answers show the whole state; they overwrite it, so they come last.

    set_machine and set_mould answer the old rating; the index behind the last
    one shows that the list is no longer.
    """
    calls = [set_machine(j, 1, 1) for j in range(machine_count)]
    calls.append(set_machine(machine_count, 1, 1))
    calls.extend(set_mould(i, 1, 1) for i in range(mould_count))
    calls.append(set_mould(mould_count, 1, 1))
    return calls


def revealed(machines, moulds):
    """What the calls of reveal answer on a shop with these ratings."""
    found = [[0, *rating] for rating in machines]
    found.append([-2])
    found.extend([0, *rating] for rating in moulds)
    found.append([-2])
    return found


def listed(machines, moulds):
    """What list_ratings answers on a shop with these ratings."""
    return [len(machines), *flat(machines), len(moulds), *flat(moulds)]
