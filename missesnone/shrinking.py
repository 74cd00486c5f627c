"""Shrunk inputs, and the endings of two inputs that are heard by turns."""

from itertools import combinations

from missesnone.comparing import require_same_face
from missesnone.errors import TooLong, WriteSame
from missesnone.orders import one_longer
from missesnone.programs import run

MOST_SHRUNK = 5
MOST_SCHEDULED = 8


def shrunk(first, second, events):
    """Return the first input, shorter ones first, on which two programs do not write the same."""
    require_same_face(first, second)
    if len(events) > MOST_SHRUNK:
        raise TooLong("the input has more than 5 events")
    if not differ_on(first, second, events):
        raise WriteSame("both programs write the same on the input")
    # The search ends: the input itself, when ranked, is among the last ones.
    for names in names_taken(events):
        for candidate in inputs_with(names):
            if differ_on(first, second, candidate):
                return candidate


def differ_on(first, second, events):
    """Return whether two programs do not write the same on the input."""
    return run(first, events)[1] != run(second, events)[1]


def names_taken(events):
    """Return the lists of names of some of the events, by their number, then by their indexes."""
    return [
        [events[at][0] for at in indexes]
        for many in range(1, len(events) + 1)
        for indexes in combinations(range(len(events)), many)
    ]


def inputs_with(names):
    """Return all ranked inputs with just these names, in the order of all inputs."""
    found = [[]]
    for name in names:
        found = [longer for events in found for longer in one_longer([name], events)]
    return found


def endings(program, first, second):
    """Return the different endings, each with its first schedule and how many schedules end so."""
    if len(first) + len(second) > MOST_SCHEDULED:
        raise TooLong("the inputs have more than 8 events together")
    first_schedule = {}
    many = {}
    for schedule in schedules(len(first), len(second)):
        ending = ending_of(program, merged(schedule, first, second))
        if ending not in first_schedule:
            first_schedule[ending] = schedule
            many[ending] = 0
        many[ending] += 1
    return [(ending, first_schedule[ending], many[ending]) for ending in first_schedule]


def schedules(many, others):
    """Return the schedules of so many events of the first input and of the second one, in order."""
    if many == 0 or others == 0:
        return [many * (True,) + others * (False,)]
    earlier = [(True, *rest) for rest in schedules(many - 1, others)]
    return earlier + [(False, *rest) for rest in schedules(many, others - 1)]


def merged(schedule, first, second):
    """Return the events of both inputs as the schedule orders them."""
    waiting = list(first)
    others = list(second)
    events = []
    for of_first in schedule:
        if of_first:
            events.append(waiting.pop(0))
        else:
            events.append(others.pop(0))
    return events


def ending_of(program, events):
    """Return for each port the labels and integers that are written to it on the input."""
    shown = {port: [] for port, _ in program.ports}
    for output in run(program, events)[1]:
        for port, label, number in output:
            shown[port].append((label, number))
    return tuple([tuple(shown[port]) for port, _ in program.ports])
