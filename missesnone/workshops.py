"""Workshops: several hands edit a program, and tests are run again only if they must be."""

from missesnone.entries import copy_of_input, copy_of_outputs, is_cell, is_due, is_input, is_row
from missesnone.errors import BadEdit, BadTest, TooManyEdits, UnknownEdit, UnknownTest, WorkshopFull
from missesnone.programs import copy_of_row, row_at, run, with_rows
from missesnone.values import is_index

HANDS = 10
MOST_ENTRIES = 100
MOST_BLAMED = 6


class Workshop:
    """A right program, the edits that hands made to it, and the tests of what it is now."""

    def __init__(self, base):
        # A copy, as of everything that a workshop is passed.
        self._base = with_rows(base, [])
        self._entries = []
        self._edits = []
        self._forces = []
        self._tests = []
        self._last_runs = []
        self._runs = 0

    @property
    def base(self):
        """The right program."""
        return self._base

    @property
    def runs(self):
        """How many runs `verdicts` made."""
        return self._runs

    @property
    def in_force(self):
        """The list of the numbers of the edits in force, ascending."""
        return [number for number, force in enumerate(self._forces) if force]

    @property
    def size(self):
        """The number of entries."""
        return len(self._entries)

    def edit(self, hand, cell, row):
        """Put the row into the cell; return the number of the edit."""
        if not is_index(hand, HANDS):
            raise BadEdit("the hand is not an integer from 0 to 9")
        if not is_cell(self._base, cell) or not is_row(self._base, cell, row):
            raise BadEdit("the program has no such cell or row")
        made = (hand, tuple(cell), copy_of_row(row))
        self._enter(("edit", *made))
        self._edits.append(made)
        self._forces.append(True)
        return len(self._edits) - 1

    def test(self, events, outputs):
        """Add a workshop test; return its number."""
        if not is_input(self._base, events):
            raise BadTest("the program does not hear such an input")
        if not is_due(self._base, len(events), outputs):
            raise BadTest("the program has no such outputs")
        made = (copy_of_input(events), copy_of_outputs(outputs))
        self._enter(("test", *made))
        self._tests.append(made)
        self._last_runs.append(None)
        return len(self._tests) - 1

    def undo(self, number):
        """Undo the edit with this number, which is in force."""
        self._switch("undo", number, False)

    def redo(self, number):
        """Redo the edit with this number, which is undone."""
        self._switch("redo", number, True)

    def _switch(self, word, number, force):
        if not is_index(number, len(self._edits)) or self._forces[number] == force:
            raise UnknownEdit(number)
        self._enter((word, number))
        self._forces[number] = force

    def _enter(self, entry):
        # Called after all other checks and before any change: so nothing is changed after an error.
        if len(self._entries) >= MOST_ENTRIES:
            raise WorkshopFull("the workshop has 100 entries")
        self._entries.append(entry)

    def program(self):
        """Return the program now."""
        return self.program_with(self.in_force)

    def program_with(self, numbers):
        """Return the base with the rows of these edits put into their cells one after the other."""
        return with_rows(self._base, [self._edits[number][1:] for number in numbers])

    def verdicts(self):
        """Return for each workshop test whether it passes; stale ones are run."""
        now = self.program()
        for number in self.stale():
            self._last_runs[number] = kept_of_run(now, self._tests[number])
            self._runs += 1
        return [passed for _, passed in self._last_runs]

    def stale(self):
        """Return the list of the numbers of the stale tests, ascending."""
        now = self.program()
        return [number for number, last in enumerate(self._last_runs) if is_stale(now, last)]

    def edits(self):
        """Return the list of all edits, as triples of the hand, the cell and the row."""
        return list(self._edits)

    def tests(self):
        """Return the list of all workshop tests, as pairs of the events and the outputs."""
        return [(list(events), list(outputs)) for events, outputs in self._tests]

    def events(self):
        """Return the list of the entries."""
        return list(self._entries)


def kept_of_run(program, test):
    """Return the rows in the cells that a run of the test touches, and whether it passes."""
    events, due = test
    _, outputs, touched = run(program, events)
    rows = {cell: row_at(program, cell) for cell in touched}
    return (rows, outputs == list(due))


def is_stale(program, last):
    """Return whether a test must be run in the program, by what is kept of its last run, if any."""
    if last is None:
        return True
    rows, _ = last
    return any([row_at(program, cell) != row for cell, row in rows.items()])


def blame(workshop, number):
    """Return the least failing and the greatest passing sets of edits in force for the test."""
    tests = workshop.tests()
    if not is_index(number, len(tests)):
        raise UnknownTest(number)
    numbers = workshop.in_force
    if len(numbers) > MOST_BLAMED:
        raise TooManyEdits("more than 6 edits are in force")
    failing = []
    passing = []
    for chosen in subsets(numbers):
        _, passed = kept_of_run(workshop.program_with(chosen), tests[number])
        if passed:
            passing.append(chosen)
        else:
            failing.append(chosen)
    return (without_proper_subset(failing), without_proper_superset(passing))


def subsets(numbers):
    """Return all sets of the ascending numbers, in the order in which blame lists them."""
    found = [()]
    for number in numbers:
        # Of two sets, the one without the least number that only one of them has comes first.
        found = [[*chosen, *more] for chosen in found for more in ((), (number,))]
    return [tuple(chosen) for chosen in found]


def without_proper_subset(sets):
    """Return the sets of which no other one is a subset."""
    return [
        chosen for chosen in sets
        if not any([is_proper_subset(other, chosen) for other in sets])
    ]


def without_proper_superset(sets):
    """Return the sets that are a subset of no other one."""
    return [
        chosen for chosen in sets
        if not any([is_proper_subset(chosen, other) for other in sets])
    ]


def is_proper_subset(first, second):
    """Return whether the second set has all numbers of the first one, and more."""
    return len(first) < len(second) and all([number in second for number in first])


def clashes(workshop, first, second):
    """Return the list of the cells into which both hands put something, and not the same."""
    rows = rows_put(workshop, first)
    other = rows_put(workshop, second)
    return [cell for cell in rows if cell in other and other[cell] != rows[cell]]


def rows_put(workshop, hand):
    """Return what the hand puts into cells, in the order of its first edits in force for them."""
    edits = workshop.edits()
    rows = {}
    for number in workshop.in_force:
        maker, cell, row = edits[number]
        if maker == hand:
            rows[cell] = row
    return rows
