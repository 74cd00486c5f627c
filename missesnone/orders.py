"""Inputs by order alone: ranks, alike inputs, and all inputs up to a length."""

from missesnone.errors import TooLarge

MOST_INPUTS = 300


def ranks(numbers):
    """Return the list of the ranks of the integers among themselves."""
    ascending = sorted(set(numbers))
    rank_of = {number: rank for rank, number in enumerate(ascending)}
    return [rank_of[number] for number in numbers]


def ranked(events):
    """Return the input with each integer replaced by its rank among all its integers."""
    names = [name for name, _ in events]
    return list(zip(names, ranks([number for _, number in events])))


def alike(first, second):
    """Return whether two inputs have the same names and become the same when ranked."""
    return ranked(first) == ranked(second)


def all_inputs(names, length):
    """Return the list of all ranked inputs with 1 event, with 2, and so on up to the length."""
    found = []
    shorter = [[]]
    for _ in range(length):
        longer = []
        for events in shorter:
            longer.extend(one_longer(names, events))
            if len(found) + len(longer) > MOST_INPUTS:
                raise TooLarge("more than 300 inputs")
        found.extend(longer)
        shorter = list(longer)
    return found


def one_longer(names, events):
    """Return the ranked inputs with one event more that begin like the ranked input."""
    doubled = [(name, 2 * number) for name, number in events]
    count = len(set([number for _, number in events]))
    # The doubled integers are 0, 2, 4 and so on: position - 1 has that position among them.
    return [
        ranked([*doubled, (name, position - 1)])
        for name in names
        for position in range(2 * count + 1)
    ]
