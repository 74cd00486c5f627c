"""What values of any kind consist of, for checks that raise no error."""


def is_sequence(value):
    """Return whether the value is a list or a tuple."""
    return isinstance(value, (list, tuple))


def is_pair(value):
    """Return whether the value is a list or a tuple with two items."""
    return is_sequence(value) and len(value) == 2


def is_integer(value):
    """Return whether the value is an integer; True and False are not."""
    return isinstance(value, int) and not isinstance(value, bool)
