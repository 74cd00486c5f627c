"""Papers: for each fault, what shows that it is harmless or which test catches it."""

from missesnone.comparing import compare, is_pairing
from missesnone.errors import SuiteMisses
from missesnone.faults import faulty
from missesnone.programs import run
from missesnone.suites import catches, outputs_of
from missesnone.values import is_index, is_pair, is_sequence


def paper(program, faults, tests):
    """Return the paper for the suite, or raise SuiteMisses with the first fault that it misses."""
    # All faults are compared before the first one that is missed is looked for.
    compared = [compare(program, faulty(program, fault)) for fault in faults]
    due = outputs_of(program, tests)
    entries = []
    for number, (difference, pairs) in enumerate(compared):
        if difference is None:
            entries.append(("same", pairs))
        else:
            at = first_catching(faulty(program, faults[number]), tests, due)
            if at is None:
                raise SuiteMisses(number)
            entries.append(("test", at))
    return entries


def first_catching(other, tests, due):
    """Return the number of the first test on which the program does not write what is due, or None."""
    for at, events in enumerate(tests):
        if run(other, events)[1] != due[at]:
            return at
    return None


def accepts(program, faults, tests, value):
    """Return whether the value has exactly one entry for each fault, and all of them hold."""
    if not is_sequence(value) or len(value) != len(faults):
        return False
    for fault, entry in zip(faults, value):
        if not holds(program, fault, tests, entry):
            return False
    return True


def holds(program, fault, tests, entry):
    """Return whether the value is an entry of a paper that is right for the fault."""
    if not is_pair(entry):
        return False
    word, told = entry
    if word == "same":
        return is_pairing(program, faulty(program, fault), told)
    if word == "test":
        return is_index(told, len(tests)) and catches(program, fault, tests[told])
    return False
