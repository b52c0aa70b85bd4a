"""Kinds of values that many modules ask for."""


def is_number(value):
    """Whether any value is a number; True and False are none."""
    return isinstance(value, int) and not isinstance(value, bool)


def is_number_in(value, low, high):
    """Whether any value is a number from low to high."""
    return is_number(value) and low <= value <= high


def is_list(value):
    """Whether any value can be passed where a list is documented."""
    return isinstance(value, (list, tuple))
