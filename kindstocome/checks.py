"""What several modules share: tests of plain values, and the parts of a tuple."""


def is_number(value):
    """Whether value is an integer; True and False are none."""
    return isinstance(value, int) and not isinstance(value, bool)


def is_index(value, limit):
    """Whether value is an integer from 0 to limit - 1."""
    return is_number(value) and 0 <= value < limit


def is_pair(value):
    """Whether value is a tuple of two items."""
    return isinstance(value, tuple) and len(value) == 2


def is_ascending(value, limit):
    """Whether value is an ascending tuple of integers from 0 to limit - 1."""
    if not isinstance(value, tuple):
        return False
    least = 0
    for item in value:
        if not is_index(item, limit) or item < least:
            return False
        least = item + 1
    return True


def parts_of(items):
    """All tuples of some of the items of an ascending tuple, by their length, then ascending."""
    found = [()]
    for item in items:
        found = found + [part + (item,) for part in found]
    return tuple(sorted(found, key=lambda some: (len(some), some)))
