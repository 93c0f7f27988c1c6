"""The interface: the answers to a list of calls on one new shop."""

from mouldpress.changes import perform_change
from mouldpress.codes import NO_INSTANCE
from mouldpress.instance import Instance
from mouldpress.queries import perform_query
from mouldpress.reading import read_calls

CREATE = 0
FIRST_QUERY = 7


def perform(instance, call):
    """Perform a call other than create and give back what is answered."""
    if instance is None:
        return [NO_INSTANCE]
    if call.number < FIRST_QUERY:
        return perform_change(instance, call)
    return perform_query(instance, call)


def answers(calls):
    """For each call in order: how many numbers are answered, then these."""
    instance = None
    given = []
    for call in read_calls(calls):
        if call.number == CREATE:
            instance = Instance()
            answer = [0]
        else:
            answer = perform(instance, call)
        given.append(len(answer))
        given.extend(answer)
    return given
