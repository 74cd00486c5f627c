"""Programs and helpers that several tests use."""

import copy

from missesnone.programs import Program
from missesnone.texts import parse_program

EXAMPLE = "\n".join([
    "hear put",
    "port out low high",
    "mode a 0",
    "mode b 1",
    "at a put 0 go b hold 0",
    "at b put 0 go b hold 0 write out low 0",
    "at b put 2 go b hold 1 write out high 1",
])

# Two names, two ports that share a label, and a mode for each number of held integers.
LEDGER = "\n".join([
    "hear put take",
    "port out low high put",
    "port log low seen",
    "mode a 0",
    "mode b1 1",
    "mode c 2",
    "mode d 3",
    "at a put 0 go b1 hold 0",
    "at a take 0 go a write log seen 0",
    "at b1 put 0 go c hold 0 1 write out low 0 write log low 1",
    "at b1 put 2 go c hold 0 1 write out high 1",
    "at b1 take 1 go a write out put 0",
    "at c put 0 go d hold 0 1 2",
    "at c put 2 go d hold 0 1 2 write out put 1",
    "at c put 4 go d hold 0 1 2 write out high 2 write out low 0",
    "at c take 3 go b1 hold 0 write log seen 1",
    "at d put 6 go d hold 1 2 3 write out low 0 write out high 3 write log seen 2 write out put 1",
    "at d take 5 go c hold 0 1 write log low 2",
])


def example():
    return parse_program(EXAMPLE)


def ledger():
    return parse_program(LEDGER)


def bare(rows=()):
    """A program that is made without a text, with modes that hold 0, 1, 2 and 3 integers."""
    return Program(
        ("put", "take"),
        (("out", ("low", "high")), ("log", ("low",))),
        (("a", 0), ("b", 1), ("c", 2), ("d", 3)),
        rows,
    )


def as_lists(value):
    """The same value with lists in the place of tuples."""
    if isinstance(value, (list, tuple)):
        return [as_lists(part) for part in value]
    return value


def as_tuples(value):
    """The same value with tuples in the place of lists."""
    if isinstance(value, (list, tuple)):
        return tuple(as_tuples(part) for part in value)
    return value


def shown(value):
    """A text of the value that tells tuples from lists and integers from booleans."""
    if isinstance(value, Program):
        return "Program" + shown((value.names, value.ports, value.modes, value.table))
    if isinstance(value, list):
        return "[" + ", ".join(shown(part) for part in value) + "]"
    if isinstance(value, tuple):
        return "(" + ", ".join(shown(part) for part in value) + ")"
    if type(value) is int:
        return hex(value)  # Python refuses to write thousands of decimal digits.
    return repr(value)


def call(case, function, *passed):
    """Call the function, and require that it leaves its arguments as they were."""
    before = shown(list(passed))
    copies = copy.deepcopy(passed)
    result = function(*passed)
    case.assertEqual(shown(list(passed)), before)
    case.assertEqual(list(passed), list(copies))
    return result


def other_faces():
    """Programs with other names, ports or labels than the example has."""
    return [
        parse_program(EXAMPLE.replace("put", "take")),
        parse_program(EXAMPLE.replace("hear put", "hear put take")),
        parse_program(EXAMPLE.replace("out", "log")),
        parse_program(EXAMPLE.replace("low high", "high low")),
        parse_program(EXAMPLE.replace("low high", "low high mid")),
        parse_program(EXAMPLE.replace("mode a", "port log low\nmode a")),
    ]


def parts_replaced(value, fresh):
    """The value with each of its parts, itself included, replaced in turn."""
    yield fresh
    if isinstance(value, (list, tuple)):
        for at, part in enumerate(value):
            for other in parts_replaced(part, fresh):
                yield type(value)([*value[:at], other, *value[at + 1:]])


def mixed(value, chance):
    """The same value with lists or tuples, by chance."""
    if isinstance(value, (list, tuple)):
        return chance.choice((list, tuple))([mixed(part, chance) for part in value])
    return value
