"""Claims about inputs: after each event the mode, what is held, and the output."""

from missesnone.programs import START, step
from missesnone.values import is_integer, is_sequence


def claim(program, events):
    """Return the claim that is right."""
    place = START
    found = []
    for event in events:
        place, output, _ = step(program, place, event)
        mode, held = place
        found.append((program.modes[mode][0], held, output))
    return found


def first_wrong(program, events, value):
    """Return the first wrong step of a claim, or None if nothing is wrong."""
    if not is_sequence(value):
        return 0
    due = claim(program, events)
    for at, (told, right) in enumerate(zip(value, due)):
        if not is_same(told, right):
            return at
    if len(value) != len(due):
        return min(len(value), len(due))
    return None


def is_same(told, right):
    """Return whether the value is the right one; lists may stand in it for tuples."""
    if isinstance(right, tuple):
        if not is_sequence(told) or len(told) != len(right):
            return False
        return all([is_same(part, other) for part, other in zip(told, right)])
    if isinstance(right, str):
        return isinstance(told, str) and told == right
    return is_integer(told) and told == right
