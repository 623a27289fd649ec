"""The nearest kind: answers that are offered for kinds, of which those of the nearest ones count."""

from kindstocome.bounds import MAX_KINDS
from kindstocome.checks import is_ascending, is_pair
from kindstocome.choices import is_answer
from kindstocome.lots import lots


def is_offers(kinds, value):
    """Whether value is offers of answers for some of these kinds."""
    if not isinstance(value, tuple) or len(value) > MAX_KINDS:
        return False
    if not all([is_pair(item) and is_answer(item[1]) for item in value]):
        return False
    return is_ascending(tuple([item[0] for item in value]), len(kinds))


def has_other_under(kinds, kind, some):
    """Whether another one of some kinds lies under this kind."""
    return any([other != kind and kinds.is_under(other, kind) for other in some])


def nearest(kinds, offers, lot):
    """The ascending tuple of the kinds of the nearest offers of a lot."""
    holding = [kind for kind, number in offers if kind in lot]
    return tuple([kind for kind in holding if not has_other_under(kinds, kind, holding)])


def is_unclear(kinds, offers, lot):
    """Whether the nearest offers of a lot have unlike answers."""
    near = nearest(kinds, offers, lot)
    return len(set([number for kind, number in offers if kind in near])) > 1


def is_missing(kinds, offers, lot):
    """Whether a lot has no nearest offer."""
    return len(nearest(kinds, offers, lot)) == 0


def first_unclear(kinds, offers):
    """The first lot that is unclear, None if there is none."""
    for lot in lots(kinds):
        if is_unclear(kinds, offers, lot):
            return lot
    return None


def first_missing(kinds, offers):
    """The first lot that is missing, None if there is none."""
    for lot in lots(kinds):
        if is_missing(kinds, offers, lot):
            return lot
    return None


def as_rows(kinds, offers):
    """The rows with a row for each offer, the greatest kind first."""
    # What lies under a kind has a greater number, so the first row that holds is one of the nearest.
    return tuple([(((kind, True),), number) for kind, number in reversed(offers)])
