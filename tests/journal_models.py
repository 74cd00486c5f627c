"""Points 38 and 39 told as plainly as possible, and helpers for journals."""

import re

from missesnone.errors import TextError
from missesnone.programs import Program
from missesnone.texts import format_program, parse_program
from workshop_models import Plain

INTEGER = "(?:0|-?[1-9][0-9]{0,29})"
NUMBER = "(?:0|[1-9][0-9]{0,3})"


def sums(bodies):
    """The checksums of lines."""
    checksum, found = 1, []
    for body in bodies:
        for sign in body:
            checksum = (256 * checksum + ord(sign)) % 65521
        found.append(checksum)
    return found


def with_sums(*bodies):
    """A journal of these lines, with the right checksums."""
    return "".join(f"{body} {checksum}\n" for body, checksum in zip(bodies, sums(bodies)))


def plain_body(base, entry):
    """The line of an entry without its checksum, with the row written by hand."""
    if entry[0] == "edit":
        _, hand, (mode, name, position), (follower, kept, writes) = entry
        row = f"at {base.modes[mode][0]} {base.names[name]} {position} go {base.modes[follower][0]}"
        if kept:
            row = row + " hold " + " ".join(map(str, kept))
        for port, label, source in writes:
            row = row + f" write {base.ports[port][0]} {label} {source}"
        return f"edit {hand} {row}"
    if entry[0] == "test":
        body = "test"
        for (name, number), output in zip(entry[1], entry[2]):
            body = body + f" {name} {number} {len(output)}"
            for port, label, integer in output:
                body = body + f" {port} {label} {integer}"
        return body
    return f"{entry[0]} {entry[1]}"


def plain_journal(base, entries):
    return with_sums(*[plain_body(base, entry) for entry in entries])


def at_line(base, line):
    """The cell and the row of a line `at`, read as the only one of a text of the base; None if it has an error."""
    empty = Program(base.names, base.ports, base.modes, [])
    try:
        parsed = parse_program(format_program(empty) + "\n" + line)
    except TextError:
        return None
    _, mode, name, position = line.split(" ")[:4]
    cell = ([each for each, _ in base.modes].index(mode), base.names.index(name), int(position))
    return cell, parsed.row_of[cell]


def plain_entry(base, body):
    """The entry of a line without its checksum, or None if it has none of the forms."""
    found = re.fullmatch(f"(undo|redo) ({NUMBER})", body)
    if found:
        return (found[1], int(found[2]))
    found = re.fullmatch("edit ([0-9]) (at .*)", body)
    if found:
        read = at_line(base, found[2])
        return None if read is None else ("edit", int(found[1]), *read)
    if not body.startswith("test "):
        return None
    rest, events, outputs = body[4:], [], []
    write = "|".join(f"{port} (?:{'|'.join(labels)})" for port, labels in base.ports)
    while rest:
        found = re.match(f" ({'|'.join(base.names)}) ({INTEGER}) ({NUMBER})(?= |$)", rest)
        if not found:
            return None
        rest = rest[found.end():]
        events.append((found[1], int(found[2])))
        output = []
        for _ in range(int(found[3])):
            due = re.match(f" ({write}) ({INTEGER})(?= |$)", rest)
            if not due:
                return None
            rest = rest[due.end():]
            output.append((*due[1].split(" "), int(due[2])))
        outputs.append(tuple(output))
    return ("test", tuple(events), tuple(outputs))


def takes(plain, entry):
    """Whether a workshop takes an entry of the right form."""
    if len(plain.entries) >= 100:
        return False
    if entry[0] == "test":
        return all(len(output) <= 4 for output in entry[2])
    if entry[0] == "edit":
        return True
    undone = [number for number in range(len(plain.edits())) if number not in plain.in_force()]
    return entry[1] in (plain.in_force() if entry[0] == "undo" else undone)


def plain_replay(base, text):
    """The entries of a journal, or the name of the error and its line."""
    lines = [line[:-1] for line in text.splitlines(keepends=True) if line.endswith("\n")]
    bodies = [line.rpartition(" ")[0] for line in lines]
    for number, (line, body, checksum) in enumerate(zip(lines, bodies, sums(bodies)), start=1):
        if line != f"{body} {checksum}" or plain_entry(base, body) is None:
            return ("Changed", number)
    plain = Plain(base)
    for number, body in enumerate(bodies, start=1):
        entry = plain_entry(base, body)
        if not takes(plain, entry):
            return ("Impossible", number)
        plain.add(entry)
    return plain.entries
