"""Later hierarchies of the same hand, and whether they break what was true of the ones ahead of them."""

from kindstocome.lots import lots
from kindstocome.wishes import is_against


def is_later(kinds, later):
    """Whether later has these kinds with the same elders, and the same several."""
    return later.elders[:len(kinds)] == kinds.elders and later.several == kinds.several


def known_part(kinds, lot):
    """What is left of a lot of a later hierarchy without the kinds that kinds does not have."""
    return tuple([kind for kind in lot if kind < len(kinds)])


def known_lots(kinds, later):
    """The ascending tuple of the known parts of all lots of later."""
    return tuple(sorted(set([known_part(kinds, lot) for lot in lots(later)])))


def first_new(kinds, later):
    """The first known part that is no lot of kinds, None if there is none."""
    right = lots(kinds)
    for part in known_lots(kinds, later):
        if part not in right:
            return part
    return None


def is_release(kinds, later):
    """Whether later is a later hierarchy with no new known part."""
    return is_later(kinds, later) and first_new(kinds, later) is None


def breaks(kinds, later, wish):
    """The first known part that is against a wish of kinds, None if there is none."""
    for part in known_lots(kinds, later):
        if is_against(kinds, wish, part):
            return part
    return None
