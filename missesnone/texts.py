"""Program texts: reading and writing them.

A line `at` is passed as the list of its parts. The functions for such lines take a program, or a
draft of one: only its names, ports and modes matter to them.
"""

from missesnone.errors import Malformed, Misplaced, Repeated, TooMany, Unfit, Unknown
from missesnone.programs import MOST_WRITES, Program, candidate_count, cells, idle_row, row_at

LETTERS = "abcdefghijklmnopqrstuvwxyz"
DIGITS = "0123456789"
SOURCES = ("0", "1", "2", "3")
POSITIONS = ("0", "1", "2", "3", "4", "5", "6")
MOST_CHARACTERS = 20000
MOST_LETTERS = 8
MOST_WORDS = 4
MOST_PORTS = 3
MOST_MODES = 16
MOST_HELD = 3


class Draft:
    """What the lines that were read so far say of a program."""

    def __init__(self):
        self.names = ()
        self.ports = []
        self.modes = []
        self.rows = {}

    def expects(self, word):
        """Return whether a line that begins with this word may come now."""
        if word == "hear":
            return not self.names
        if word == "port":
            return bool(self.names) and not self.modes
        if word == "mode":
            return bool(self.ports) and not self.rows
        return bool(self.modes)

    def add_line(self, line, parts):
        """Take the line with this number, or raise its first error."""
        if not has_form(parts):
            raise Malformed(line)
        if not self.expects(parts[0]):
            raise Misplaced(line)
        if parts[0] == "hear":
            self.names = tuple(parts[1:])
        elif parts[0] == "port":
            self.add_port(line, parts)
        elif parts[0] == "mode":
            self.add_mode(line, parts)
        else:
            self.add_row(line, parts)

    def add_port(self, line, parts):
        """Take a line `port`."""
        if parts[1] in port_names(self):
            raise Repeated(line, parts[1])
        if len(self.ports) == MOST_PORTS:
            raise TooMany(line)
        self.ports.append((parts[1], tuple(parts[2:])))

    def add_mode(self, line, parts):
        """Take a line `mode`."""
        if not self.modes and parts[2] != "0":
            raise Unfit(line)
        if parts[1] in mode_names(self):
            raise Repeated(line, parts[1])
        if len(self.modes) == MOST_MODES:
            raise TooMany(line)
        self.modes.append((parts[1], int(parts[2])))

    def add_row(self, line, parts):
        """Take a line `at`."""
        word = first_unknown(self, parts)
        if word is not None:
            raise Unknown(line, word)
        cell, row = cell_and_row(self, parts)
        if not fits(self, cell, row):
            raise Unfit(line)
        if cell in self.rows:
            raise Repeated(line, parts[2])
        self.rows[cell] = row


def parse_program(text):
    """Return the program of the text; the first line with an error decides."""
    if len(text) > MOST_CHARACTERS:
        raise TooMany(0)
    draft = Draft()
    lines = text.split("\n")
    for number, line in enumerate(lines, start=1):
        draft.add_line(number, line.split(" "))
    if not draft.ports or not draft.modes:
        raise Misplaced(len(lines) + 1)
    return Program(draft.names, draft.ports, draft.modes, list(draft.rows.items()))


def format_program(program):
    """Return the text of the program, without the cells that contain their idle rows."""
    lines = [" ".join(["hear", *program.names])]
    for name, labels in program.ports:
        lines.append(" ".join(["port", name, *labels]))
    for name, count in program.modes:
        lines.append(f"mode {name} {count}")
    for cell in cells(program):
        row = row_at(program, cell)
        if row != idle_row(program, cell):
            lines.append(format_row(program, cell, row))
    return "\n".join(lines)


def format_row(program, cell, row):
    """Return the line `at` of the cell and the row."""
    mode, name, position = cell
    follower, kept, writes = row
    modes = mode_names(program)
    parts = ["at", modes[mode], program.names[name], str(position), "go", modes[follower]]
    if len(kept) > 0:
        parts.append("hold")
    parts.extend([str(source) for source in kept])
    for port, label, source in writes:
        parts.extend(["write", program.ports[port][0], label, str(source)])
    return " ".join(parts)


def port_names(program):
    """Return the names of the ports, in order."""
    return [name for name, _ in program.ports]


def mode_names(program):
    """Return the names of the modes, in order."""
    return [name for name, _ in program.modes]


def has_form(parts):
    """Return whether the parts of a line have one of the forms."""
    if parts[0] == "hear":
        return are_different_words(parts[1:])
    if parts[0] == "port":
        return len(parts) > 1 and is_word(parts[1]) and are_different_words(parts[2:])
    if parts[0] == "mode":
        return len(parts) == 3 and is_mode(parts[1]) and parts[2] in SOURCES
    return parts[0] == "at" and is_cell_form(parts) and is_row_form(parts)


def is_word(part):
    """Return whether the part has the form WORD."""
    return 1 <= len(part) <= MOST_LETTERS and all([sign in LETTERS for sign in part])


def is_mode(part):
    """Return whether the part has the form MODE."""
    if not 1 <= len(part) <= MOST_LETTERS or part[0] not in LETTERS:
        return False
    return all([sign in LETTERS or sign in DIGITS for sign in part])


def are_different_words(parts):
    """Return whether the parts are 1 to 4 different words."""
    if not 1 <= len(parts) <= MOST_WORDS or len(set(parts)) < len(parts):
        return False
    return all([is_word(part) for part in parts])


def is_cell_form(parts):
    """Return whether a line `at` begins with a cell and `go MODE`."""
    if len(parts) < 6 or parts[4] != "go":
        return False
    return (
        is_mode(parts[1])
        and is_word(parts[2])
        and parts[3] in POSITIONS
        and is_mode(parts[5])
    )


def is_row_form(parts):
    """Return whether a line `at` has well-formed parts behind `go MODE`."""
    end = end_of_hold(parts)
    if end > 6 and not 1 <= end - 7 <= MOST_HELD:
        return False
    if (len(parts) - end) % 4 != 0 or len(parts) - end > 4 * MOST_WRITES:
        return False
    return all([is_write_form(parts[at:at + 4]) for at in range(end, len(parts), 4)])


def is_write_form(parts):
    """Return whether four parts have the form `write WORD WORD SOURCE`."""
    return (
        parts[0] == "write"
        and is_word(parts[1])
        and is_word(parts[2])
        and parts[3] in SOURCES
    )


def end_of_hold(parts):
    """Return the index behind `hold` and its sources, which is 6 if there is no `hold`."""
    if len(parts) == 6 or parts[6] != "hold":
        return 6
    end = 7
    while end < len(parts) and parts[end] in SOURCES:
        end += 1
    return end


def sources_held(parts):
    """Return the tuple of the sources after `hold` in a well-formed line `at`."""
    return tuple([int(part) for part in parts[7:end_of_hold(parts)]])


def writes_named(parts):
    """Return the writes of a well-formed line `at`, with the names of their ports."""
    return [
        (parts[at + 1], parts[at + 2], int(parts[at + 3]))
        for at in range(end_of_hold(parts), len(parts), 4)
    ]


def first_unknown(program, parts):
    """Return the first part that names what the program does not have, or None."""
    modes = mode_names(program)
    if parts[1] not in modes:
        return parts[1]
    if parts[2] not in program.names:
        return parts[2]
    if parts[5] not in modes:
        return parts[5]
    labels = dict(program.ports)
    for port, label, _ in writes_named(parts):
        if port not in labels:
            return port
        if label not in labels[port]:
            return label
    return None


def cell_and_row(program, parts):
    """Return the cell and the row of a line `at` whose names the program has."""
    modes = mode_names(program)
    ports = port_names(program)
    cell = (modes.index(parts[1]), program.names.index(parts[2]), int(parts[3]))
    writes = [
        (ports.index(port), label, source) for port, label, source in writes_named(parts)
    ]
    return cell, (modes.index(parts[5]), sources_held(parts), tuple(writes))


def fits(program, cell, row):
    """Return whether the row fits the cell by the numbers of integers that modes hold."""
    mode, _, position = cell
    follower, kept, writes = row
    count = program.modes[mode][1]
    if position > 2 * count or len(kept) != program.modes[follower][1]:
        return False
    if list(kept) != sorted(set(kept)):
        return False
    sources = [*kept, *[source for _, _, source in writes]]
    many = candidate_count(count, position)
    return all([source < many for source in sources])
