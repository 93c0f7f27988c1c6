"""Sets of moulds: their neighbours, their deficiency and the covers that hold them.

A set of moulds is the list of their indices in ascending order.
"""

from mouldpress.matching import fits


def sets_by_bitmask(how_many):
    """All sets of the indices below how_many, in the order of their bitmasks."""
    found = [[]]
    for index in range(how_many):
        # A set with the index has a greater bitmask than every set of those ahead of it.
        with_index = [members + [index] for members in found]
        found = found + with_index
    return found


def fits_one(machine, chosen, moulds):
    """True if a mould of the set fits the machine."""
    return any([fits(moulds[i], machine) for i in chosen])


def neighbours_of(chosen, moulds, machines):
    """The indices of the machines that a mould of the set fits, in ascending order."""
    return [j for j, machine in enumerate(machines) if fits_one(machine, chosen, moulds)]


def deficiency(chosen, moulds, machines):
    return max(0, len(chosen) - len(neighbours_of(chosen, moulds, machines)))


def deficient_set(moulds, machines):
    """The set of moulds with the maximum deficiency that has the smallest bitmask."""
    best = []
    for chosen in sets_by_bitmask(len(moulds)):
        if deficiency(chosen, moulds, machines) > deficiency(best, moulds, machines):
            best = chosen
    return best


def machines_to_cover(chosen, moulds, machines):
    """The machines that every cover with these moulds holds: the neighbours of all other moulds."""
    others = [i for i, mould in enumerate(moulds) if i not in chosen]
    return neighbours_of(others, moulds, machines)


def is_cover(chosen, taken, moulds, machines):
    """True if the set of moulds and the set of machines taken form a cover."""
    return all([j in taken for j in machines_to_cover(chosen, moulds, machines)])


def cover_size(chosen, moulds, machines):
    """The size of the smallest cover with just these moulds."""
    return len(chosen) + len(machines_to_cover(chosen, moulds, machines))


def minimum_cover_moulds(moulds, machines):
    """The moulds of the minimum cover; its machines follow from them, so no tie is left."""
    best = []
    for chosen in sets_by_bitmask(len(moulds)):
        if cover_size(chosen, moulds, machines) < cover_size(best, moulds, machines):
            best = chosen
    return best
