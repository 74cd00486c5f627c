"""Suites: tests that every faulty program fails unless its fault is harmless."""

from missesnone.comparing import first_difference
from missesnone.faults import faulty
from missesnone.programs import run


def catches(program, fault, events):
    """Return whether the faulty program and the right one do not write the same on the test."""
    return run(faulty(program, fault), events)[1] != run(program, events)[1]


def verdicts(program, faults):
    """Return for each fault the first difference that it makes, or None if it is harmless."""
    return [first_difference(program, faulty(program, fault)) for fault in faults]


def suite(program, faults):
    """Return the verdicts that are not None, each once, in the order in which they come first."""
    tests = []
    for verdict in verdicts(program, faults):
        if verdict is not None and verdict not in tests:
            tests.append(verdict)
    return tests


def missed(program, faults, tests):
    """Return the numbers of the faults that are not harmless and that no test catches."""
    due = outputs_of(program, tests)
    return [
        number
        for number, verdict in enumerate(verdicts(program, faults))
        if verdict is not None and outputs_of(faulty(program, faults[number]), tests) == due
    ]


def outputs_of(program, tests):
    """Return for each test the list of the outputs of the program."""
    return [run(program, events)[1] for events in tests]
