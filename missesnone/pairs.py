"""Two programs side by side: joint places, and the moves that lead on from them."""

from missesnone.orders import ranked, ranks
from missesnone.programs import run, step

# The joint place that the empty input leads to: both programs are at the start.
FIRST_PAIR = ((0, ()), (0, ()))


def pair_of(first, second, events):
    """Return the joint place of two programs that the input leads to."""
    return joined(run(first, events)[0], run(second, events)[0])


def joined(place, other):
    """Return the joint place of a place of the first program and one of the second."""
    mode, held = place
    other_mode, other_held = other
    together = ranks([*held, *other_held])
    return (
        (mode, tuple(together[:len(held)])),
        (other_mode, tuple(together[len(held):])),
    )


def held_together(place, other):
    """Return the different integers that are held at either place, ascending."""
    _, held = place
    _, other_held = other
    return sorted(set([*held, *other_held]))


def moves_at(names, pair):
    """Return the list of the moves of these names at a joint place, in order."""
    count = len(held_together(pair[0], pair[1]))
    return [(name, position) for name in names for position in range(2 * count + 1)]


def continued(first, second, events, move):
    """Return the ranked input, continued by the move."""
    name, position = move
    doubled = [(heard, 2 * number) for heard, number in ranked(events)]
    held = held_together(run(first, doubled)[0], run(second, doubled)[0])
    if len(held) > 0:
        added = number_at(held, position)
    else:
        added = max([number for _, number in doubled], default=-1) + 1
    return ranked([*doubled, (name, added)])


def number_at(held, position):
    """Return an integer with this position among the held ones.

    All integers of the input are even: so none of them is between a held one and the odd one that
    is next to it.
    """
    if position == 0:
        return held[0] - 1
    below = held[(position - 1) // 2]
    if position % 2 == 1:
        return below
    return below + 1


def pair_after(first, second, pair, move):
    """Return the joint place after the move, and both outputs with ranks for integers."""
    place, other, output, other_output = step_both(first, second, pair, move)
    doubled = [2 * rank for rank in held_together(pair[0], pair[1])]
    numbers = sorted(set([*doubled, move[1] - 1]))
    return (
        joined(place, other),
        output_in_ranks(output, numbers),
        output_in_ranks(other_output, numbers),
    )


def step_both(first, second, pair, move):
    """Return the next places of both programs and their outputs.

    The ranks of the joint place are doubled. They were 0, 1, 2 and so on: so position - 1 is an
    integer with this position among them.
    """
    name, position = move
    event = (name, position - 1)
    place, output, _ = step(first, doubled_place(pair[0]), event)
    other, other_output, _ = step(second, doubled_place(pair[1]), event)
    return (place, other, output, other_output)


def doubled_place(place):
    """Return the place with each integer doubled."""
    mode, held = place
    return (mode, tuple([2 * number for number in held]))


def output_in_ranks(output, numbers):
    """Return the output with the index among the ascending numbers for each integer."""
    return tuple([(port, label, numbers.index(number)) for port, label, number in output])
