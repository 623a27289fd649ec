"""What several modules share: tests of plain values, the parts of a tuple, and the words of a line."""

DIGITS = "0123456789"


def is_number(value):
    """Whether value is an integer; True and False are none."""
    return isinstance(value, int) and not isinstance(value, bool)


def is_bool(value):
    """Whether value is True or False; 1 and 0 are none."""
    return value is True or value is False


def is_index(value, limit):
    """Whether value is an integer from 0 to limit - 1."""
    return is_number(value) and 0 <= value < limit


def is_pair(value):
    """Whether value is a tuple of two items."""
    return isinstance(value, tuple) and len(value) == 2


def is_ascending(value, limit):
    """Whether value is an ascending tuple of integers from 0 to limit - 1."""
    if not isinstance(value, tuple):
        return False
    least = 0
    for item in value:
        if not is_index(item, limit) or item < least:
            return False
        least = item + 1
    return True


def parts_of(items):
    """All tuples of some of the items of an ascending tuple, by their length, then ascending."""
    found = [()]
    for item in items:
        found = found + [part + (item,) for part in found]
    return tuple(sorted(found, key=lambda some: (len(some), some)))


def words_of(line):
    """What stands between the blanks of a line, and nothing but blanks parts it."""
    return [word for word in line.split(" ") if len(word) > 0]


def is_numeral(word):
    """Whether a word is an integer of one or two digits without a nought ahead."""
    if not 1 <= len(word) <= 2 or not all([sign in DIGITS for sign in word]):
        return False
    return word == "0" or not word.startswith("0")


def numbers_of(words):
    """The tuple of the integers that these words tell, None if one of them is no such integer."""
    if not all([is_numeral(word) for word in words]):
        return None
    return tuple([int(word) for word in words])
