"""The calls that change the instance: 1 to 6.

Machines and moulds keep the same rules, so each call hands its list of ratings
on to one function that serves both.
"""

from mouldpress.codes import LIST_FULL, NO_SUCH_INDEX, OUT_OF_RANGE
from mouldpress.instance import is_index

LEAST = 1
GREATEST = 999
MOST_RATINGS = 5


def is_rating(rating):
    """True if both numbers of the rating are in range."""
    return LEAST <= rating[0] <= GREATEST and LEAST <= rating[1] <= GREATEST


def add_rating(ratings, numbers):
    rating = (numbers[0], numbers[1])
    if not is_rating(rating):
        return [OUT_OF_RANGE]
    if len(ratings) >= MOST_RATINGS:
        return [LIST_FULL]
    ratings.append(rating)
    return [len(ratings) - 1]


def remove_rating(ratings, numbers):
    index = numbers[0]
    if not is_index(ratings, index):
        return [NO_SUCH_INDEX]
    ratings.pop(index)
    return [len(ratings)]


def set_rating(ratings, numbers):
    index = numbers[0]
    rating = (numbers[1], numbers[2])
    if not is_index(ratings, index):
        return [NO_SUCH_INDEX]
    if not is_rating(rating):
        return [OUT_OF_RANGE]
    old = ratings[index]
    ratings[index] = rating
    return [0, old[0], old[1]]


def add_machine(instance, numbers):
    return add_rating(instance.machines, numbers)


def add_mould(instance, numbers):
    return add_rating(instance.moulds, numbers)


def remove_machine(instance, numbers):
    return remove_rating(instance.machines, numbers)


def remove_mould(instance, numbers):
    return remove_rating(instance.moulds, numbers)


def set_machine(instance, numbers):
    return set_rating(instance.machines, numbers)


def set_mould(instance, numbers):
    return set_rating(instance.moulds, numbers)


CHANGES = {
    1: add_machine,
    2: add_mould,
    3: remove_machine,
    4: remove_mould,
    5: set_machine,
    6: set_mould,
}


def perform_change(instance, call):
    """Perform a call from 1 to 6 and give back what is answered."""
    change = CHANGES[call.number]
    return change(instance, call.numbers)
