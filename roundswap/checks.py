"""Checks of numbers and of tuples of numbers, for all modules."""


def is_number(value):
    """Return whether a value is a number; True and False are none."""
    return isinstance(value, int) and not isinstance(value, bool)


def is_number_from(value, low, high):
    """Return whether a value is a number from low to high, both included."""
    return is_number(value) and low <= value <= high


def is_number_tuple(value, width):
    """Return whether a value is a tuple of exactly this many numbers."""
    return isinstance(value, tuple) and len(value) == width and all([is_number(item) for item in value])
