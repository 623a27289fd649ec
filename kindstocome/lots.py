"""Extensions of a hierarchy, and the lots: the known kinds under which one thing can lie, whatever is added."""

from kindstocome.bounds import MAX_NEW
from kindstocome.checks import is_ascending, parts_of


def are_new_elders(kinds, value, number):
    """Whether value can be the elders of the new kind with this number."""
    if not is_ascending(value, number) or len(value) == 0:
        return False
    if len(value) > 1 and not kinds.several:
        return False
    return not any([elder in kinds.closed for elder in value])


def is_extension(kinds, value):
    """Whether value is an extension of kinds."""
    if not isinstance(value, tuple) or len(value) > MAX_NEW:
        return False
    return all([are_new_elders(kinds, item, len(kinds) + at) for at, item in enumerate(value)])


def joined(some):
    """The ascending tuple of all that stands in some tuples of kinds."""
    found = []
    for each in some:
        found.extend(each)
    return tuple(sorted(set(found)))


def lot_of(kinds, extension, number):
    """The lot of the kind or new kind with this number."""
    table = [kinds.above(kind) for kind in range(len(kinds))]
    for elders in extension:
        # Elders have lower numbers, so their lots stand in the table already.
        table.append(joined([table[elder] for elder in elders]))
    return table[number]


def members(kinds, extension):
    """The kinds that are not hollow, and all new kinds."""
    many = len(kinds) + len(extension)
    return tuple([number for number in range(many) if number not in kinds.hollow])


def single_elders(kinds):
    """All elders that one new kind can have in an extension of this kind alone, the fewest first, then ascending."""
    if kinds.several:
        return [part for part in parts_of(kinds.opened()) if len(part) > 0]
    return [(kind,) for kind in kinds.opened()]


def lots(kinds):
    """All lots: those of kinds that are not hollow, then the others by the fewest elders of a new kind."""
    known = sorted([kinds.above(kind) for kind in members(kinds, ())])
    fewest = {}
    # One new kind is enough: with more, a lot is still made of the lots of kinds that are not closed.
    for elders in single_elders(kinds):
        lot = lot_of(kinds, (elders,), len(kinds))
        if lot not in known and lot not in fewest:
            fewest[lot] = len(elders)
    return tuple(known + sorted(fewest, key=lambda other: (fewest[other], other)))


def witness(kinds, lot):
    """An extension of the fewest kinds and elders with the number of a member that has this lot, None if none has."""
    for kind in members(kinds, ()):
        if kinds.above(kind) == lot:
            return ((), kind)
    for elders in single_elders(kinds):
        if lot_of(kinds, (elders,), len(kinds)) == lot:
            return ((elders,), len(kinds))
    return None


def is_lot(kinds, value):
    """Whether value is one of lots."""
    # Asked first, as (True,) equals (1,).
    return is_ascending(value, len(kinds)) and value in lots(kinds)
