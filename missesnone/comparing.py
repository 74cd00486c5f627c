"""Comparing two programs for all inputs, and checking that a list of joint places shows it."""

from missesnone.errors import OtherFace, TooLarge
from missesnone.pairs import FIRST_PAIR, continued, held_together, joined, moves_at, step_both
from missesnone.programs import face
from missesnone.values import is_ascending, is_index, is_pair, is_sequence

MOST_KEPT = 300


def first_difference(first, second):
    """Return the first input on which two programs do not write the same, or None."""
    difference, _ = compare(first, second)
    return difference


def pairing(first, second):
    """Return the joint places of the kept inputs, in order, or None if there is a difference."""
    difference, pairs = compare(first, second)
    if difference is not None:
        return None
    return pairs


def is_pairing(first, second, pairs):
    """Return whether these joint places show that two programs write the same on all inputs."""
    require_same_face(first, second)
    if not is_sequence(pairs) or len(pairs) == 0:
        return False
    if not all([is_joint_place(first, second, pair) for pair in pairs]):
        return False
    if in_tuples(pairs[0]) != FIRST_PAIR:
        return False
    listed = {in_tuples(pair): True for pair in pairs}
    for pair in listed:
        for _, after, same in tried(first, second, pair):
            if not same or after not in listed:
                return False
    return True


def compare(first, second):
    """Return the first difference, or None, and the joint places of the kept inputs, in order."""
    require_same_face(first, second)
    pairs = [FIRST_PAIR]
    # A kept input is known by its joint place: from which one it was continued, and by which move.
    origins = {FIRST_PAIR: None}
    at = 0
    while at < len(pairs):
        tries = tried(first, second, pairs[at])
        for move, _, same in tries:
            if not same:
                moves = moves_to(origins, pairs[at]) + [move]
                return (input_of(first, second, moves), pairs)
        for move, after, _ in tries:
            if after not in origins:
                if len(pairs) == MOST_KEPT:
                    raise TooLarge("more than 300 inputs would be kept")
                origins[after] = (pairs[at], move)
                pairs.append(after)
        at += 1
    return (None, pairs)


def require_same_face(first, second):
    """Raise OtherFace if two programs do not have the same face."""
    if face(first) != face(second):
        raise OtherFace("the programs have other names, ports or labels")


def tried(first, second, pair):
    """Return each move, the joint place that follows, and whether both programs write the same."""
    found = []
    for move in moves_at(first.names, pair):
        place, other, output, other_output = step_both(first, second, pair, move)
        found.append((move, joined(place, other), output == other_output))
    return found


def moves_to(origins, pair):
    """Return the moves of the kept input that leads to the joint place, from the first one on."""
    moves = []
    origin = origins[pair]
    while origin is not None:
        before, move = origin
        moves.append(move)
        origin = origins[before]
    return list(reversed(moves))


def input_of(first, second, moves):
    """Return the empty input, continued by one move after the other."""
    events = []
    for move in moves:
        events = continued(first, second, events, move)
    return events


def is_joint_place(first, second, value):
    """Return whether the value is a joint place of two programs."""
    if not is_pair(value) or not is_place(first, value[0]) or not is_place(second, value[1]):
        return False
    together = held_together(value[0], value[1])
    return together == list(range(len(together)))


def is_place(program, value):
    """Return whether the value is a mode of the program with as many ascending integers."""
    if not is_pair(value) or not is_index(value[0], len(program.modes)):
        return False
    mode, held = value
    return is_ascending(held) and len(held) == program.modes[mode][1]


def in_tuples(pair):
    """Return the joint place with tuples throughout, whatever lists it consists of."""
    return tuple([(mode, tuple(held)) for mode, held in pair])
