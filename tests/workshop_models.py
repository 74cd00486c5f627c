"""Points 28 to 31 told as plainly as possible, to compare workshops with, and helpers for workshops."""

import functools
import itertools

from missesnone.programs import cells, row_at, run, with_rows
from missesnone.workshops import Workshop
from models import candidates_at, random_row
from samples import shown


def snapshot(workshop):
    """A text of all that a workshop shows without running a test."""
    return shown([
        workshop.base, workshop.runs, workshop.in_force, workshop.size, workshop.program(), workshop.stale(),
        workshop.edits(), workshop.tests(), workshop.events(),
    ])


def shown_entries(workshop):
    """A text of the entries of a workshop and of its base."""
    return shown([workshop.base, workshop.events()])


class Plain:
    """A workshop that keeps its entries, and for each test the program of its last run."""

    def __init__(self, base):
        self.base = base
        self.entries = []
        self.programs = []
        self.runs = 0

    def add(self, entry):
        self.entries.append(entry)
        if entry[0] == "test":
            self.programs.append(None)

    def edits(self):
        return [entry[1:] for entry in self.entries if entry[0] == "edit"]

    def tests(self):
        return [entry[1:] for entry in self.entries if entry[0] == "test"]

    def in_force(self):
        force = []
        for entry in self.entries:
            if entry[0] == "edit":
                force.append(True)
            elif entry[0] != "test":
                force[entry[1]] = entry[0] == "redo"
        return [number for number, each in enumerate(force) if each]

    def program_with(self, numbers):
        program = self.base
        for number in numbers:
            program = with_rows(program, [self.edits()[number][1:]])
        return program

    def program(self):
        return self.program_with(self.in_force())

    def passes(self, program, number):
        events, outputs = self.tests()[number]
        return run(program, events)[1] == list(outputs)

    def is_stale(self, number):
        last = self.programs[number]
        if last is None:
            return True
        touched = run(last, self.tests()[number][0])[2]
        return any(row_at(self.program(), cell) != row_at(last, cell) for cell in touched)

    def stale(self):
        return [number for number in range(len(self.programs)) if self.is_stale(number)]

    def verdicts(self):
        for number in self.stale():
            self.programs[number] = self.program()
            self.runs += 1
        return [self.passes(self.program(), number) for number in range(len(self.programs))]

    def blame(self, number):
        numbers = self.in_force()
        sets = [frozenset(part) for many in range(len(numbers) + 1) for part in itertools.combinations(numbers, many)]
        passing = [part for part in sets if self.passes(self.program_with(sorted(part)), number)]
        failing = [part for part in sets if part not in passing]
        return (
            in_order(part for part in failing if not any(other < part for other in failing)),
            in_order(part for part in passing if not any(other > part for other in passing)),
        )

    def clashes(self, first, second):
        put = {first: {}, second: {}}
        order = []
        for number in self.in_force():
            hand, cell, row = self.edits()[number]
            if hand in put:
                put[hand][cell] = row
            if hand == first and cell not in order:
                order.append(cell)
        return [cell for cell in order if cell in put[second] and put[first][cell] != put[second][cell]]


def in_order(sets):
    """Sets in the order of point 30, as ascending tuples."""
    def compare(first, second):
        if first == second:
            return 0
        return 1 if min(first ^ second) in first else -1
    return [tuple(sorted(part)) for part in sorted(sets, key=functools.cmp_to_key(compare))]


def random_edit(chance, program):
    """A hand, a cell and a row of the program; sometimes the row that is already in the cell."""
    cell = chance.choice(cells(program)[:12])
    if chance.random() < 0.15:
        return (chance.randrange(3), cell, row_at(program, cell))
    return (chance.randrange(10) if chance.random() < 0.2 else chance.randrange(2), cell, random_row(
        chance, program, cell, 0.3))


def random_test(chance, program, longest=4):
    """An input and outputs, most often those of the program."""
    many = chance.randrange(1, longest + 1)
    events = tuple((chance.choice(program.names), chance.randrange(-4, 5)) for _ in range(many))
    outputs = run(program, events)[1]
    if chance.random() < 0.3:
        outputs = [chance.choice([(), output, output[:1]]) for output in outputs]
    return (events, tuple(outputs))


def random_entry(chance, plain):
    """An entry that the workshop takes."""
    edits, force = plain.edits(), plain.in_force()
    undone = [number for number in range(len(edits)) if number not in force]
    kind = chance.random()
    if kind < 0.25 and force:
        return ("undo", chance.choice(force))
    if kind < 0.45 and undone:
        return ("redo", chance.choice(undone))
    if kind < 0.65:
        return ("test", *random_test(chance, chance.choice([plain.base, plain.program()])))
    return ("edit", *random_edit(chance, plain.program()))


def put(workshop, entry):
    """What the workshop returns for the entry."""
    methods = {"edit": workshop.edit, "undo": workshop.undo, "redo": workshop.redo, "test": workshop.test}
    return methods[entry[0]](*entry[1:])


def random_workshop(chance, base, many):
    """A workshop with so many entries, and its plain model."""
    workshop, plain = Workshop(base), Plain(base)
    for _ in range(many):
        entry = random_entry(chance, plain)
        put(workshop, entry)
        plain.add(entry)
    return workshop, plain


def other_row(program, cell):
    """A row for the cell that writes what its row does not."""
    follower, kept, writes = row_at(program, cell)
    assert candidates_at(program, cell) > 0
    port, labels = 0, program.ports[0][1]
    if writes:
        return (follower, kept, writes[1:])
    return (follower, kept, ((port, labels[0], 0),))
