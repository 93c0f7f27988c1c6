"""The calls from 7 on, which leave the instance as it is."""

from mouldpress.codes import NO_SUCH_INDEX
from mouldpress.instance import is_index
from mouldpress.matching import count_running, fits


class CallNotBuilt(Exception):
    """The call is read, but what it answers is not written yet."""


def answer_fits(instance, call):
    i = call.numbers[0]
    j = call.numbers[1]
    if not is_index(instance.moulds, i) or not is_index(instance.machines, j):
        return [NO_SUCH_INDEX]
    return [1 if fits(instance.moulds[i], instance.machines[j]) else 0]


def answer_max_running(instance, call):
    return [count_running(instance.moulds, instance.machines)]


QUERIES = {
    7: answer_fits,
    8: answer_max_running,
}


def perform_query(instance, call):
    """Perform a call from 7 on and give back what is answered."""
    number = call.number
    if number not in QUERIES:
        raise CallNotBuilt(f"call {number} is not built yet")
    query = QUERIES[number]
    return query(instance, call)
