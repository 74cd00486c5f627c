"""Chains: each program hears what the one before writes to one of its ports."""

from missesnone.errors import BrokenChain
from missesnone.programs import START, step
from missesnone.values import is_index


def run_chain(programs, ports, events):
    """Return the list of the outputs of the chain."""
    require_linked(programs, ports)
    places = [START for _ in programs]
    outputs = []
    for event in events:
        places, output = step_chain(programs, ports, places, event)
        outputs.append(output)
    return outputs


def require_linked(programs, ports):
    """Raise BrokenChain for the first program that does not hear a port of the one before."""
    for index in range(1, len(programs)):
        if not hears(programs[index], programs[index - 1], ports[index - 1:index]):
            raise BrokenChain(index)


def hears(program, before, told):
    """Return whether the names of the program are the labels of the port that is told, if any."""
    if len(told) == 0 or not is_index(told[0], len(before.ports)):
        return False
    _, labels = before.ports[told[0]]
    return program.names == labels


def step_chain(programs, ports, places, event):
    """Return the next places of the programs, and the output of the chain for the event."""
    following = []
    heard = [event]
    output = ()
    for index, program in enumerate(programs):
        if index > 0:
            port, _ = programs[index - 1].ports[ports[index - 1]]
            heard = [(label, number) for name, label, number in output if name == port]
        place, output = hear_all(program, places[index], heard)
        following.append(place)
    return (following, output)


def hear_all(program, place, events):
    """Return the place after the events, and all that is written for them, in order."""
    written = []
    for event in events:
        place, output, _ = step(program, place, event)
        written.extend(output)
    return (place, tuple(written))
