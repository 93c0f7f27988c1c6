"""Shops to ask about: pairs of a list of machines and a list of moulds."""

import itertools
import random


def lists_of(ratings, longest):
    """Every list of these ratings, up to the longest."""
    return [list(found) for length in range(longest + 1) for found in itertools.product(ratings, repeat=length)]


def small_shops():
    """Every shop of up to 3 and 3 with ratings from 1 to 2, and of up to 2 and 2 with ratings from 1 to 3."""
    for greatest, longest in ((2, 3), (3, 2)):
        numbers = range(1, greatest + 1)
        found = lists_of(list(itertools.product(numbers, numbers)), longest)
        yield from itertools.product(found, found)


def drawn_ratings(chooser, how_many, greatest):
    return [(chooser.randint(1, greatest), chooser.randint(1, greatest)) for place in range(how_many)]


def crossed_shop(chooser, machine_count, mould_count):
    """A shop where no machine is better than another, so that a mould fits any run of neighbouring ones."""
    machines = [(10 * place, 10 * (6 - place)) for place in range(1, machine_count + 1)]
    moulds = []
    for place in range(mould_count):
        first = chooser.randint(1, max(machine_count, 1))
        last = chooser.randint(first, max(machine_count, 1))
        moulds.append((10 * first, 10 * (6 - last)))
    chooser.shuffle(machines)
    return machines, moulds


def drawn_shops(seed, how_many):
    """Shops of up to 5 and 5, most of them large, by turns of both sorts."""
    chooser = random.Random(seed)
    for turn in range(how_many):
        machine_count, mould_count = [chooser.choice((0, 1, 2, 3, 3, 4, 4, 5, 5, 5, 5, 5)) for side in range(2)]
        if turn % 2:
            yield crossed_shop(chooser, machine_count, mould_count)
        else:
            greatest = chooser.choice((2, 3, 5, 8, 999))
            yield (drawn_ratings(chooser, machine_count, greatest), drawn_ratings(chooser, mould_count, greatest))
