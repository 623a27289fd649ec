"""Tests of plain values, for all modules that accept any value."""


def is_number(value):
    """Whether value is an integer; True and False are none."""
    return isinstance(value, int) and not isinstance(value, bool)


def is_ascending(value, limit):
    """Whether value is an ascending tuple of integers from 0 to limit - 1."""
    if not isinstance(value, tuple):
        return False
    least = 0
    for item in value:
        if not is_number(item) or item < least or item >= limit:
            return False
        least = item + 1
    return True
