"""Checks of arguments that all parts of the package share."""

from readingring.errors import InvalidNumber, UnknownReader

LATEST = 10 ** 18


def is_number(value):
    """Tell whether a value is a number."""
    # Python takes True and False as integers; here they are not numbers.
    return isinstance(value, int) and not isinstance(value, bool)


def lies_between(value, low, high):
    """Tell whether a value is a number from low to high."""
    return is_number(value) and low <= value <= high


# The messages name no values: Python refuses to write very long integers.
def check_number(value, low, high):
    """Raise InvalidNumber unless a value is a number from low to high."""
    if not lies_between(value, low, high):
        raise InvalidNumber("not a number within the limits")


def check_reader(ring, reader):
    """Raise UnknownReader unless the ring has this reader."""
    if not lies_between(reader, 0, len(ring) - 1):
        raise UnknownReader("the ring has no such reader")
