"""Journals of workshops: a line with a checksum for each entry, and replaying them."""

from missesnone.errors import Changed, Impossible, MissError
from missesnone.texts import DIGITS, cell_and_row, first_unknown, fits, format_row, has_form
from missesnone.workshops import Workshop

FIRST_SUM = 1
SUM_MODULUS = 65521
MOST_COUNT_DIGITS = 4
MOST_INTEGER_DIGITS = 30


def journal(workshop):
    """Return the journal of the workshop."""
    lines = []
    checksum = FIRST_SUM
    for entry in workshop.events():
        line = line_of(workshop.base, entry)
        checksum = checksum_after(checksum, line)
        lines.append(f"{line} {checksum}\n")
    return "".join(lines)


def checksum_after(checksum, line):
    """Return the checksum after the characters of the line."""
    for sign in line:
        checksum = (256 * checksum + ord(sign)) % SUM_MODULUS
    return checksum


def line_of(base, entry):
    """Return the line of the entry without its checksum."""
    if entry[0] == "edit":
        _, hand, cell, row = entry
        return f"edit {hand} {format_row(base, cell, row)}"
    if entry[0] == "test":
        _, events, outputs = entry
        return test_line(events, outputs)
    word, number = entry
    return f"{word} {number}"


def test_line(events, outputs):
    """Return the line of a workshop test without its checksum."""
    parts = ["test"]
    for (name, number), output in zip(events, outputs):
        parts.extend([name, str(number), str(len(output))])
        for port, label, written in output:
            parts.extend([port, label, str(written)])
    return " ".join(parts)


def replay(base, text):
    """Return a new workshop with the entries of the complete lines of the journal."""
    entries = entries_of(base, text)
    workshop = Workshop(base)
    for line, entry in enumerate(entries, start=1):
        try:
            enter(workshop, entry)
        except MissError:
            raise Impossible(line) from None
    return workshop


def entries_of(base, text):
    """Return the entries of the complete lines, or raise Changed for the first line that is wrong."""
    # What stands after the last newline is the last item, also if nothing stands there.
    complete = text.split("\n")[:-1]
    entries = []
    checksum = FIRST_SUM
    for line, told in enumerate(complete, start=1):
        before, _, due = told.rpartition(" ")
        checksum = checksum_after(checksum, before)
        entry = entry_of(base, before.split(" "))
        if entry is None or due != str(checksum):
            raise Changed(line)
        entries.append(entry)
    return entries


def enter(workshop, entry):
    """Put the entry into the workshop."""
    if entry[0] == "edit":
        _, hand, cell, row = entry
        workshop.edit(hand, cell, row)
    elif entry[0] == "test":
        _, events, outputs = entry
        workshop.test(events, outputs)
    elif entry[0] == "undo":
        workshop.undo(entry[1])
    else:
        workshop.redo(entry[1])


def entry_of(base, parts):
    """Return the entry of a line without its checksum, or None if it has none of the forms."""
    if parts[0] == "edit":
        return read_edit(base, parts[1:])
    if parts[0] == "test":
        return read_test(base, parts[1:])
    if parts[0] not in ("undo", "redo") or len(parts) != 2 or not is_natural(parts[1], MOST_COUNT_DIGITS):
        return None
    return (parts[0], int(parts[1]))


def read_edit(base, parts):
    """Return the entry of the parts after `edit`, or None if they do not have the form."""
    if parts[1:2] != ["at"] or not is_natural(parts[0], 1):
        return None
    row_parts = parts[1:]
    if not has_form(row_parts) or first_unknown(base, row_parts) is not None:
        return None
    cell, row = cell_and_row(base, row_parts)
    if not fits(base, cell, row):
        return None
    return ("edit", int(parts[0]), cell, row)


def read_test(base, parts):
    """Return the entry of the parts after `test`, or None if they do not have the form."""
    events = []
    outputs = []
    at = 0
    while at < len(parts):
        head = parts[at:at + 3]
        if not is_event_form(base, head):
            return None
        end = at + 3 + 3 * int(head[2])
        if end > len(parts):
            return None
        writes = [parts[start:start + 3] for start in range(at + 3, end, 3)]
        if not all([is_due_form(base, write) for write in writes]):
            return None
        events.append((head[0], int(head[1])))
        outputs.append(tuple([(port, label, int(number)) for port, label, number in writes]))
        at = end
    if len(events) == 0:
        return None
    return ("test", tuple(events), tuple(outputs))


def is_event_form(base, parts):
    """Return whether the parts have the form `NAME INTEGER COUNT`, with a name that the base hears."""
    if len(parts) != 3 or parts[0] not in base.names:
        return False
    return is_integer_form(parts[1]) and is_natural(parts[2], MOST_COUNT_DIGITS)


def is_due_form(base, parts):
    """Return whether three parts have the form `PORT LABEL INTEGER`, with a label of a port of the base."""
    port, label, number = parts
    labels = dict(base.ports)
    return port in labels and label in labels[port] and is_integer_form(number)


def is_integer_form(part):
    """Return whether the part is an integer with at most 30 digits."""
    if part.startswith("-"):
        return part != "-0" and is_natural(part[1:], MOST_INTEGER_DIGITS)
    return is_natural(part, MOST_INTEGER_DIGITS)


def is_natural(part, most):
    """Return whether the part is an integer from 0 on with so many digits at most, and no leading zero."""
    if not 1 <= len(part) <= most or not all([sign in DIGITS for sign in part]):
        return False
    return part == "0" or part[0] != "0"
