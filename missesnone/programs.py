"""Programs: their cells and rows, and how they run."""

START = (0, ())
MOST_WRITES = 4


class Program:
    """A program: what it hears, its ports, its modes, and a row in each cell."""

    def __init__(self, names, ports, modes, rows):
        self.names = tuple(names)
        self.ports = tuple([(name, tuple(labels)) for name, labels in ports])
        self.modes = tuple([(name, count) for name, count in modes])
        given = {tuple(cell): copy_of_row(row) for cell, row in rows}
        # Kept by cell as well, so that a step need not search for the place in the table.
        self.row_of = {
            cell: given.get(cell, idle_row(self, cell)) for cell in cells(self)
        }
        self.table = tuple(self.row_of.values())

    def __eq__(self, other):
        return (
            isinstance(other, Program)
            and self.names == other.names
            and self.ports == other.ports
            and self.modes == other.modes
            and self.table == other.table
        )


def copy_of_row(row):
    """Return the row with tuples throughout, whatever lists it consists of."""
    follower, kept, writes = row
    return (follower, tuple(kept), tuple([tuple(write) for write in writes]))


def cells(program):
    """Return the list of all cells, in order."""
    return [
        (mode, name, position)
        for mode in range(len(program.modes))
        for name in range(len(program.names))
        for position in range(2 * program.modes[mode][1] + 1)
    ]


def row_at(program, cell):
    """Return the row in the cell."""
    return program.row_of[tuple(cell)]


def idle_row(program, cell):
    """Return the row that keeps the mode and what is held, and writes nothing."""
    mode, _, position = cell
    count = program.modes[mode][1]
    many = candidate_count(count, position)
    # Only at an even position there is a candidate that is not held: the integer of the event.
    kept = [at for at in range(many) if many == count or at != position // 2]
    return (mode, tuple(kept), ())


def with_rows(program, rows):
    """Return a program with these rows put into their cells one after the other."""
    row_of = {cell: row_at(program, cell) for cell in cells(program)}
    for cell, row in rows:
        row_of[tuple(cell)] = row
    return Program(program.names, program.ports, program.modes, list(row_of.items()))


def face(program):
    """Return a pair of the names and the ports."""
    return (program.names, program.ports)


def position_of(number, held):
    """Return the position of the integer among the held integers, which are ascending."""
    position = 0
    for value in held:
        if number < value:
            return position
        if number == value:
            return position + 1
        position += 2
    return position


def candidate_count(count, position):
    """Return how many candidates a cell has whose mode holds so many integers."""
    if position % 2 == 1:
        return count
    return count + 1


def candidates(held, number):
    """Return the held integers together with that of the event, ascending, each once."""
    return sorted(set([*held, number]))


def step(program, place, event):
    """Return a triple of the next place, the output and the touched cell."""
    mode, held = place
    name, number = event
    cell = (mode, program.names.index(name), position_of(number, held))
    follower, kept, writes = row_at(program, cell)
    numbers = candidates(held, number)
    output = [
        (program.ports[port][0], label, numbers[at]) for port, label, at in writes
    ]
    following = (follower, tuple([numbers[at] for at in kept]))
    return (following, tuple(output), cell)


def run(program, events):
    """Return a triple of the last place, the list of outputs and the list of touched cells."""
    place = START
    outputs = []
    touched = []
    for event in events:
        place, output, cell = step(program, place, event)
        outputs.append(output)
        touched.append(cell)
    return (place, outputs, touched)
