"""The errors of the package.

An error keeps what it was created with as its arguments, so that it can be copied.
"""


class MissError(ValueError):
    """The base class of all errors that the package raises."""


class TextError(MissError):
    """The base class of errors in program texts."""

    def __init__(self, line):
        self.line = line


class Malformed(TextError):
    """A line has none of the forms."""


class Misplaced(TextError):
    """A line does not fit into the order of lines, or a line is missing."""


class Unfit(TextError):
    """A line does not fit the number of integers that a mode holds."""


class TooMany(TextError):
    """A text has too many ports, modes or characters."""


class Unknown(TextError):
    """A line names what the program does not have."""

    def __init__(self, line, word):
        TextError.__init__(self, line)
        self.word = word


class Repeated(TextError):
    """A line repeats a port, a mode or a cell."""

    def __init__(self, line, word):
        TextError.__init__(self, line)
        self.word = word


class OtherFace(MissError):
    """Two programs do not have the same face."""


class TooLarge(MissError):
    """There are more inputs, joint places or faults than the limit."""


class TooLong(MissError):
    """There are more events than the limit."""


class WriteSame(MissError):
    """Two programs write the same on an input."""


class BadEdit(MissError):
    """An edit has a wrong hand, cell or row."""


class BadTest(MissError):
    """A workshop test has a wrong input or wrong outputs."""


class TooManyEdits(MissError):
    """More edits are in force than blame can be found for."""


class WorkshopFull(MissError):
    """A workshop would have too many entries."""


class SuiteMisses(MissError):
    """A suite misses the fault with this number."""

    def __init__(self, number):
        self.number = number


class UnknownEdit(MissError):
    """There is no edit with this number to undo or to redo."""

    def __init__(self, number):
        self.number = number


class UnknownTest(MissError):
    """There is no workshop test with this number."""

    def __init__(self, number):
        self.number = number


class BrokenChain(MissError):
    """The program with this index does not hear a port of the one before."""

    def __init__(self, index):
        self.index = index


class JournalError(MissError):
    """The base class of errors in journals."""

    def __init__(self, line):
        self.line = line


class Changed(JournalError):
    """A line of a journal has none of the forms, or a wrong checksum."""


class Impossible(JournalError):
    """A workshop refuses the entry of a line of a journal."""
