"""Checks of values that several modules make."""

from kepttogether.errors import BadValue


def demand(holds, name):
    """Raise BadValue with the name of the argument unless its check holds."""
    if not holds:
        raise BadValue(name)


def is_integer(value, low, high):
    """Tell whether the value is an integer from low to high."""
    # True and False are integers for Python, but not for the document.
    return isinstance(value, int) and not isinstance(value, bool) and low <= value <= high


def is_tuple_of(value, many):
    """Tell whether the value is a tuple of so many items."""
    return isinstance(value, tuple) and len(value) == many


def are_below(values, size):
    """Tell whether all values are integers from 0 to size - 1."""
    return all(is_integer(x, 0, size - 1) for x in values)


def is_ascending(value, size):
    """Tell whether the value is an ascending tuple of different integers from 0 to size - 1."""
    if not isinstance(value, tuple):
        return False
    least = 0
    for x in value:
        if not is_integer(x, least, size - 1):
            return False
        least = x + 1
    return True


def is_pair(value, size):
    """Tell whether the value is a tuple of two different integers from 0 to size - 1."""
    return is_tuple_of(value, 2) and are_below(value, size) and value[0] != value[1]
