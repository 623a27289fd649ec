"""Wishes for all kinds yet to come, and which kinds have to be closed for them."""

from kindstocome.checks import parts_of
from kindstocome.choices import answer, is_answer, is_choice, is_rows, needs_hold
from kindstocome.lots import lots
from kindstocome.nearest import is_missing, is_offers, is_unclear


def is_wish(kinds, value):
    """Whether value is a wish of these kinds."""
    if not isinstance(value, tuple) or len(value) == 0 or not isinstance(value[0], str):
        return False
    return are_wish_parts(kinds, value[0], value[1:])


def are_wish_parts(kinds, word, parts):
    """Whether these parts, a tuple, can stand in a wish behind this word."""
    if word == "alike":
        return len(parts) == 2 and is_choice(kinds, parts[0]) and is_choice(kinds, parts[1])
    if word == "never":
        return len(parts) == 2 and is_choice(kinds, parts[0]) and is_answer(parts[1])
    if word == "clear" or word == "full":
        return len(parts) == 1 and is_offers(kinds, parts[0])
    if word == "any order":
        return len(parts) == 1 and is_rows(kinds, parts[0])
    return False


def hold_unlike(rows, lot):
    """Whether the needs of two rows with unlike answers hold of a lot."""
    return len(set([number for needs, number in rows if needs_hold(needs, lot)])) > 1


def is_against(kinds, wish, lot):
    """Whether a lot, be it one of lots or not, is against a wish of these kinds."""
    word = wish[0]
    if word == "alike":
        return answer(wish[1], lot) != answer(wish[2], lot)
    if word == "never":
        return answer(wish[1], lot) == wish[2]
    if word == "clear":
        return is_unclear(kinds, wish[1], lot)
    if word == "full":
        return is_missing(kinds, wish[1], lot)
    return hold_unlike(wish[1], lot)


def first_against(kinds, wish):
    """The first lot that is against a wish, None if there is none."""
    for lot in lots(kinds):
        if is_against(kinds, wish, lot):
            return lot
    return None


def keeps(kinds, wish):
    """Whether no lot is against a wish."""
    return first_against(kinds, wish) is None


def has_within(some, less):
    """Whether all of less, a tuple of kinds, stands in some."""
    return all([kind in some for kind in less])


def closings(kinds, wish):
    """The least sets of kinds that have to be closed for a wish, by their length, then ascending."""
    found = []
    # A proper part comes ahead of what it is a part of, so what is least is known when a set is asked.
    for some in parts_of(kinds.opened()):
        if not any([has_within(some, less) for less in found]) and keeps(kinds.closing(some), wish):
            found.append(some)
    return tuple(found)
