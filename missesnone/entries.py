"""Entries of workshops: which values are edits and tests of a program, and copies of tests."""

from missesnone.programs import MOST_WRITES, candidate_count
from missesnone.values import is_ascending, is_index, is_integer, is_pair, is_sequence, is_triple


def is_cell(program, value):
    """Return whether the value is a cell of the program."""
    if not is_triple(value) or not is_index(value[0], len(program.modes)):
        return False
    mode, name, position = value
    count = program.modes[mode][1]
    return is_index(name, len(program.names)) and is_index(position, 2 * count + 1)


def is_row(program, cell, value):
    """Return whether the value is a row for the cell of the program."""
    if not is_triple(value) or not is_index(value[0], len(program.modes)):
        return False
    follower, kept, writes = value
    mode, _, position = cell
    many = candidate_count(program.modes[mode][1], position)
    if not is_ascending(kept) or len(kept) != program.modes[follower][1]:
        return False
    if not all([is_index(source, many) for source in kept]) or not is_short_list(writes):
        return False
    return all([is_write(program, many, write) for write in writes])


def is_short_list(value):
    """Return whether the value is a list or a tuple with no more items than there may be writes."""
    return is_sequence(value) and len(value) <= MOST_WRITES


def is_write(program, many, value):
    """Return whether the value is a write where there are so many candidates."""
    if not is_triple(value) or not is_index(value[0], len(program.ports)):
        return False
    port, label, source = value
    return is_one_of(label, program.ports[port][1]) and is_index(source, many)


def is_one_of(value, words):
    """Return whether the value is one of the words."""
    return isinstance(value, str) and value in words


def is_input(program, value):
    """Return whether the value is the input of a workshop test."""
    if not is_sequence(value) or len(value) == 0:
        return False
    return all([is_event(program, event) for event in value])


def is_event(program, value):
    """Return whether the value is an event that the program hears, with an integer that is not too long."""
    return is_pair(value) and is_one_of(value[0], program.names) and is_number(value[1])


def is_number(value):
    """Return whether the value is an integer with at most 30 digits."""
    return is_integer(value) and abs(value) < 10 ** 30


def is_due(program, many, value):
    """Return whether the value is a list of outputs of a workshop test with so many events."""
    if not is_sequence(value) or len(value) != many:
        return False
    return all([is_output(program, output) for output in value])


def is_output(program, value):
    """Return whether the value is an output of at most 4 writes to ports of the program."""
    return is_short_list(value) and all([is_written(program, written) for written in value])


def is_written(program, value):
    """Return whether the value is a port of the program, a label of it, and an integer that is not too long."""
    if not is_triple(value) or not is_one_of(value[0], [port for port, _ in program.ports]):
        return False
    port, label, number = value
    return is_one_of(label, dict(program.ports)[port]) and is_number(number)


def copy_of_input(events):
    """Return the input as a tuple of pairs, whatever lists it consists of."""
    return tuple([(name, number) for name, number in events])


def copy_of_outputs(outputs):
    """Return the outputs as tuples throughout, whatever lists they consist of."""
    return tuple([tuple([tuple(written) for written in output]) for output in outputs])
