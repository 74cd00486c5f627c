"""What tests touch: reachable cells, those that no test touches, and how far a test goes on alike."""

from missesnone.comparing import require_same_face
from missesnone.errors import OtherFace
from missesnone.pairs import continued
from missesnone.programs import cells, row_at, run


def cover(program):
    """Return the list of pairs of a reachable cell and its first input."""
    inputs = {0: []}
    reached = [0]
    found = []
    at = 0
    while at < len(reached):
        for cell in cells_of(program, reached[at]):
            events = continued(program, program, inputs[reached[at]], move_of(program, cell))
            found.append((cell, events))
            follower = row_at(program, cell)[0]
            if follower not in inputs:
                inputs[follower] = events
                reached.append(follower)
        at += 1
    return found


def cells_of(program, mode):
    """Return the cells of the mode, in order."""
    return [cell for cell in cells(program) if cell[0] == mode]


def move_of(program, cell):
    """Return the move that touches the cell where the program has its mode."""
    _, name, position = cell
    return (program.names[name], position)


def untouched(program, tests):
    """Return the list of the reachable cells that no test touches."""
    touched = set([cell for events in tests for cell in run(program, events)[2]])
    return [cell for cell, _ in cover(program) if cell not in touched]


def goes_on(program, other, events):
    """Return for how many events the test goes on alike in the other program."""
    require_same_face(program, other)
    if counts_held(program) != counts_held(other):
        raise OtherFace("the programs have other modes")
    many = 0
    for cell in run(program, events)[2]:
        if row_at(other, cell) != row_at(program, cell):
            return many
        many += 1
    return many


def counts_held(program):
    """Return for each mode how many integers it holds."""
    return [count for _, count in program.modes]
