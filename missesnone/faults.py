"""Faults: slips of six kinds in the cells of a program, and the faulty programs."""

from itertools import combinations

from missesnone.errors import TooLarge
from missesnone.programs import MOST_WRITES, candidate_count, cells, row_at, with_rows

MOST_FAULTS = 200


def other_next(program, many, row):
    """Return the rows with another next mode that holds as many integers, mode by mode."""
    follower, kept, writes = row
    count = program.modes[follower][1]
    return [
        (mode, kept, writes)
        for mode in range(len(program.modes))
        if mode != follower and program.modes[mode][1] == count
    ]


def other_hold(program, many, row):
    """Return the rows that hold as many candidates, but not the same."""
    follower, kept, writes = row
    return [
        (follower, held, writes)
        for held in combinations(range(many), len(kept))
        if held != kept
    ]


def one_dropped(program, many, row):
    """Return the different rows without one of the writes, write by write."""
    follower, kept, writes = row
    return each_once([
        (follower, kept, writes[:at] + writes[at + 1:]) for at in range(len(writes))
    ])


def other_label(program, many, row):
    """Return the rows with another label of the port in one of the writes."""
    return [
        with_write(row, at, (port, other, source))
        for at, (port, label, source) in enumerate(row[2])
        for other in program.ports[port][1]
        if other != label
    ]


def other_value(program, many, row):
    """Return the rows with another candidate in one of the writes."""
    return [
        with_write(row, at, (port, label, other))
        for at, (port, label, source) in enumerate(row[2])
        for other in range(many)
        if other != source
    ]


def one_repeated(program, many, row):
    """Return the different rows with one of the writes doubled, if there is room for it."""
    follower, kept, writes = row
    if len(writes) >= MOST_WRITES:
        return []
    return each_once([
        (follower, kept, writes[:at + 1] + writes[at:]) for at in range(len(writes))
    ])


# Each function takes the program, the number of candidates of a cell, and the row of this cell.
KINDS = {
    "next": other_next,
    "hold": other_hold,
    "drop": one_dropped,
    "label": other_label,
    "value": other_value,
    "repeat": one_repeated,
}


def each_once(rows):
    """Return the rows without those that came before."""
    found = []
    for row in rows:
        if row not in found:
            found.append(row)
    return found


def with_write(row, at, write):
    """Return the row with another write at this index."""
    follower, kept, writes = row
    return (follower, kept, writes[:at] + (write,) + writes[at + 1:])


def slips(program, kinds):
    """Return the list of the slips of these kinds, cell by cell and kind by kind."""
    found = []
    for cell in cells(program):
        mode, _, position = cell
        many = candidate_count(program.modes[mode][1], position)
        for kind in kinds:
            rows_of = KINDS[kind]
            found.extend([(cell, row) for row in rows_of(program, many, row_at(program, cell))])
    return found


def faults(program, kinds, two=False):
    """Return the list of the faults of these kinds, with one slip or with up to two."""
    single = slips(program, kinds)
    found = [(slip,) for slip in single]
    if two and len(found) <= MOST_FAULTS:
        found.extend(in_two_cells(single))
    if len(found) > MOST_FAULTS:
        raise TooLarge("more than 200 faults")
    return found


def in_two_cells(single):
    """Return the pairs of each slip and each later one in another cell, in order."""
    return [
        (slip, later)
        for at, slip in enumerate(single)
        for later in single[at + 1:]
        if later[0] != slip[0]
    ]


def faulty(program, fault):
    """Return the faulty program: it has the rows of the slips in their cells."""
    return with_rows(program, fault)
