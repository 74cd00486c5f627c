"""What values of any kind consist of, for checks that raise no error."""


def is_sequence(value):
    """Return whether the value is a list or a tuple."""
    return isinstance(value, (list, tuple))


def is_pair(value):
    """Return whether the value is a list or a tuple with two items."""
    return is_sequence(value) and len(value) == 2


def is_triple(value):
    """Return whether the value is a list or a tuple with three items."""
    return is_sequence(value) and len(value) == 3


def is_integer(value):
    """Return whether the value is an integer; True and False are not."""
    return isinstance(value, int) and not isinstance(value, bool)


def is_index(value, many):
    """Return whether the value is the index of one of so many things."""
    return is_integer(value) and 0 <= value < many


def is_ascending(value):
    """Return whether the value is a list or a tuple of strictly ascending integers."""
    if not is_sequence(value) or not all([is_integer(number) for number in value]):
        return False
    return list(value) == sorted(set(value))
