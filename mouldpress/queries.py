"""The calls from 7 on, which leave the instance as it is."""

from mouldpress.assignments import NOT_RUNNING, assignment_size, best_assignment, is_valid
from mouldpress.codes import NO_SUCH_INDEX, OUT_OF_RANGE
from mouldpress.instance import is_index
from mouldpress.matching import count_running, fits
from mouldpress.mould_sets import (deficiency, deficient_set, is_cover, machines_to_cover, minimum_cover_moulds,
                                   neighbours_of)


def truth_number(truth):
    return 1 if truth else 0


def is_index_set(ratings, indices):
    """True if a rating stands at each index and no index occurs twice."""
    return all([is_index(ratings, index) for index in indices]) and len(set(indices)) == len(indices)


def are_entries(entries, instance):
    """True if there is one entry for each mould, and each is -1 or the index of a machine."""
    if len(entries) != len(instance.moulds):
        return False
    return all([entry == NOT_RUNNING or is_index(instance.machines, entry) for entry in entries])


def answer_fits(instance, call):
    i = call.numbers[0]
    j = call.numbers[1]
    if not is_index(instance.moulds, i) or not is_index(instance.machines, j):
        return [NO_SUCH_INDEX]
    return [truth_number(fits(instance.moulds[i], instance.machines[j]))]


def answer_max_running(instance, call):
    return [count_running(instance.moulds, instance.machines)]


def answer_best_assignment(instance, call):
    entries = best_assignment(instance.moulds, instance.machines)
    return [assignment_size(entries)] + entries


def answer_minimum_cover(instance, call):
    chosen = minimum_cover_moulds(instance.moulds, instance.machines)
    taken = machines_to_cover(chosen, instance.moulds, instance.machines)
    return [len(chosen) + len(taken), len(chosen)] + chosen + taken


def answer_max_deficiency(instance, call):
    chosen = deficient_set(instance.moulds, instance.machines)
    return [deficiency(chosen, instance.moulds, instance.machines)] + chosen


def answer_check_assignment(instance, call):
    entries = call.rows[0]
    if not are_entries(entries, instance):
        return [OUT_OF_RANGE]
    valid = is_valid(entries, instance.moulds, instance.machines)
    return [truth_number(valid), assignment_size(entries)]


def answer_check_cover(instance, call):
    chosen = call.rows[0]
    taken = call.rows[1]
    if not is_index_set(instance.moulds, chosen) or not is_index_set(instance.machines, taken):
        return [OUT_OF_RANGE]
    covers = is_cover(chosen, taken, instance.moulds, instance.machines)
    return [truth_number(covers), len(chosen) + len(taken)]


def answer_neighbours(instance, call):
    chosen = call.rows[0]
    if not is_index_set(instance.moulds, chosen):
        return [OUT_OF_RANGE]
    found = neighbours_of(chosen, instance.moulds, instance.machines)
    return [len(found)] + found


def answer_max_running_without(instance, call):
    j = call.numbers[0]
    if not is_index(instance.machines, j):
        return [NO_SUCH_INDEX]
    others = instance.machines[:j] + instance.machines[j + 1:]
    return [count_running(instance.moulds, others)]


def counted_ratings(ratings):
    """The number of ratings, followed by the two numbers of each."""
    found = [len(ratings)]
    for rating in ratings:
        found.append(rating[0])
        found.append(rating[1])
    return found


def answer_list_ratings(instance, call):
    return counted_ratings(instance.machines) + counted_ratings(instance.moulds)


QUERIES = {
    7: answer_fits,
    8: answer_max_running,
    9: answer_best_assignment,
    10: answer_minimum_cover,
    11: answer_max_deficiency,
    12: answer_check_assignment,
    13: answer_check_cover,
    14: answer_neighbours,
    15: answer_max_running_without,
    16: answer_list_ratings,
}


def perform_query(instance, call):
    """Perform a call from 7 on and give back what is answered."""
    query = QUERIES[call.number]
    return query(instance, call)
