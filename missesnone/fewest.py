"""The fewest and the best tests among all inputs up to a length.

What an input catches is passed as the list of the numbers of the faults that it catches.
"""

from itertools import combinations

from missesnone.errors import TooLarge
from missesnone.faults import faulty
from missesnone.orders import all_inputs
from missesnone.suites import outputs_of

MOST_TRIED = 100
MOST_TESTS = 3


def fewest(program, faults, length):
    """Return the numbers of the faults that are caught by this length, and the fewest tests, or None."""
    inputs = inputs_to_try(program, length)
    catching = caught_by_each(program, faults, inputs)
    caught = together(catching)
    chosen = fewest_for(catching, caught)
    if chosen is None:
        return (caught, None)
    return (caught, [inputs[at] for at in chosen])


def best(program, faults, length, budget):
    """Return the first tests, as many as the budget allows, that catch as many faults as any."""
    inputs = inputs_to_try(program, length)
    catching = caught_by_each(program, faults, inputs)
    # All inputs are taken if they are fewer than the budget.
    count = len(inputs[:budget])
    found = ()
    most = -1
    for chosen in combinations(range(len(inputs)), count):
        many = len(together([catching[at] for at in chosen]))
        if many > most:
            found = chosen
            most = many
    return [inputs[at] for at in found]


def inputs_to_try(program, length):
    """Return all inputs up to the length, or raise TooLarge if there are more than 100."""
    inputs = all_inputs(program.names, length)
    if len(inputs) > MOST_TRIED:
        raise TooLarge("more than 100 inputs")
    return inputs


def caught_by_each(program, faults, inputs):
    """Return for each input the list of the numbers of the faults that it catches."""
    due = outputs_of(program, inputs)
    told = [outputs_of(faulty(program, fault), inputs) for fault in faults]
    return [
        [number for number in range(len(told)) if told[number][at] != due[at]]
        for at in range(len(inputs))
    ]


def together(catching):
    """Return the numbers of the faults that any of the inputs catches, ascending."""
    return sorted(set([number for numbers in catching for number in numbers]))


def fewest_for(catching, caught):
    """Return the indexes of the fewest inputs that catch these faults, or None if 3 are not enough."""
    # Faults are kept as the bits of an integer: what is left is then told quickly, for many sequences.
    bits = [in_bits(numbers) for numbers in catching]
    for many in range(MOST_TESTS + 1):
        chosen = first_for(bits, in_bits(caught), many)
        if chosen is not None:
            return chosen
    return None


def in_bits(numbers):
    """Return an integer whose bits with these numbers are set."""
    return sum([1 << number for number in numbers])


def first_for(bits, left, many):
    """Return the first sequence of at most so many inputs that catch all faults left, or None."""
    if left == 0:
        return []
    if many == 0:
        return None
    lowest = left & -left
    for at, caught in enumerate(bits):
        if (caught & lowest) != 0:
            others = first_for(bits, left & ~caught, many - 1)
            if others is not None:
                return [at, *others]
    return None
