"""What the document says, found in other ways than the program finds it: by its words, or by trying all."""

import itertools

from kindstocome.hierarchies import Kinds


def climb(elders, kind):
    """The kinds under which kind lies, by walking all ways up."""
    found = {kind}
    for elder in elders[kind]:
        found |= climb(elders, elder)
    return found


def lot_by_climbing(kinds, extension, number):
    every = climb(kinds.elders + extension, number)
    return tuple(sorted(kind for kind in every if kind < len(kinds.elders)))


def is_integer_below(value, limit):
    return type(value) is int and value in range(limit)


def right_extension(kinds, value):
    if type(value) is not tuple or len(value) > 4:
        return False
    for at, own in enumerate(value):
        if type(own) is not tuple or own == ():
            return False
        if not all(is_integer_below(elder, len(kinds.elders) + at) for elder in own):
            return False
        if list(own) != sorted(set(own)) or set(own) & set(kinds.closed):
            return False
        if kinds.several is False and len(own) != 1:
            return False
    return True


def triples(kinds, value):
    """The number of triples of a tree, None if it is none."""
    if is_integer_below(value, 10):
        return 0
    if type(value) is not tuple or len(value) != 3 or not is_integer_below(value[0], len(kinds.elders)):
        return None
    sides = [triples(kinds, side) for side in value[1:]]
    return None if None in sides else sum(sides) + 1


def right_tree(kinds, value):
    many = triples(kinds, value)
    return many is not None and many <= 12


def right_need(kinds, value):
    return (
        type(value) is tuple and len(value) == 2
        and is_integer_below(value[0], len(kinds.elders)) and type(value[1]) is bool)


def right_rows(kinds, value):
    if type(value) is not tuple or len(value) > 6:
        return False
    for row in value:
        if type(row) is not tuple or len(row) != 2 or not is_integer_below(row[1], 10):
            return False
        if type(row[0]) is not tuple or len(row[0]) > 3 or not all(right_need(kinds, need) for need in row[0]):
            return False
        if [need[0] for need in row[0]] != sorted({need[0] for need in row[0]}):
            return False
    return True


def elder_sets(kinds):
    """All sets of elders that one new kind can have, the fewest first, then ascending."""
    opened = [kind for kind in range(len(kinds.elders)) if kind not in kinds.closed]
    most = len(opened) if kinds.several else min(1, len(opened))
    for many in range(1, most + 1):
        yield from itertools.combinations(opened, many)


def tried_lots(kinds):
    """The lots in their order, by trying all sets of elders that are not closed."""
    many = len(kinds.elders)
    known = [lot_by_climbing(kinds, (), kind) for kind in range(many) if kind not in kinds.hollow]
    out = sorted(known)
    for count in range(1, many + 1):
        found = {lot_by_climbing(kinds, (own,), many) for own in elder_sets(kinds) if len(own) == count}
        out += sorted(found - set(out))
    return tuple(out)


def tried_witness(kinds, lot):
    for kind in range(len(kinds.elders)):
        if kind not in kinds.hollow and lot_by_climbing(kinds, (), kind) == lot:
            return ((), kind)
    for own in elder_sets(kinds):
        if lot_by_climbing(kinds, (own,), len(kinds.elders)) == lot:
            return ((own,), len(kinds.elders))
    return None


def all_extensions(kinds, many):
    """All extensions of at most so many new kinds."""
    out = [()]
    last = [()]
    for step in range(many):
        usable = [at for at in range(len(kinds.elders) + step) if at not in kinds.closed]
        most = len(usable) if kinds.several else 1
        own = [some for count in range(1, most + 1) for some in itertools.combinations(usable, count)]
        last = [extension + (some,) for extension in last for some in own]
        out += last
    return out


def small_kinds(many, several):
    """All hierarchies of so many kinds with every set of closed and of hollow kinds."""
    parts = [itertools.chain(*[itertools.combinations(range(kind), count) for count in range(kind + 1)])
             for kind in range(many)]
    sets = [some for count in range(many + 1) for some in itertools.combinations(range(many), count)]
    out = []
    for elders in itertools.product(*parts):
        if several or max(len(own) for own in elders) <= 1:
            out += [Kinds(elders, closed, hollow, several) for closed in sets for hollow in sets]
    return out


def tree_walk(tree, lot):
    """The answer of a tree of a lot, and the place of this answer."""
    if type(tree) is int:
        return tree, ()
    told, place = tree_walk(tree[1 if tree[0] in lot else 2], lot)
    return told, (tree[0] in lot,) + place


def rows_told(rows, lot):
    holding = [number for needs, number in rows if all((kind in lot) is wished for kind, wished in needs)]
    return (holding + [0])[0]


def choice_told(choice, lot):
    if type(choice) is int or (choice and type(choice[0]) is int):
        return tree_walk(choice, lot)[0]
    return rows_told(choice, lot)


def right_choice(kinds, value):
    return right_tree(kinds, value) or right_rows(kinds, value)


def right_offers(kinds, value):
    if type(value) is not tuple or len(value) > 6:
        return False
    for offer in value:
        if type(offer) is not tuple or len(offer) != 2:
            return False
        if not is_integer_below(offer[0], len(kinds.elders)) or not is_integer_below(offer[1], 10):
            return False
    return [offer[0] for offer in value] == sorted({offer[0] for offer in value})


WISH_PARTS = {
    "alike": (right_choice, right_choice),
    "never": (right_choice, lambda kinds, value: is_integer_below(value, 10)),
    "clear": (right_offers,),
    "full": (right_offers,),
    "any order": (right_rows,),
}


def right_wish(kinds, value):
    if type(value) is not tuple or value == () or type(value[0]) is not str or value[0] not in WISH_PARTS:
        return False
    wanted = WISH_PARTS[value[0]]
    return len(value) == len(wanted) + 1 and all(right(kinds, part) for right, part in zip(wanted, value[1:]))


def looked_up_nearest(kinds, offers, lot):
    """The nearest ones by the words of point 12, looked up one by one."""
    out = []
    for kind, number in offers:
        if kind not in lot:
            continue
        under = [
            other for other, unused in offers
            if other in lot and other != kind and kind in climb(kinds.elders, other)]
        if under == []:
            out.append(kind)
    return tuple(out)


def nearest_told(kinds, offers, lot):
    """The set of the answers of the nearest ones."""
    return {dict(offers)[kind] for kind in looked_up_nearest(kinds, offers, lot)}


def rows_holding(rows, lot):
    return [number for needs, number in rows if all((kind in lot) is wished for kind, wished in needs)]


AGAINST = {
    "alike": lambda kinds, lot, one, other: choice_told(one, lot) != choice_told(other, lot),
    "never": lambda kinds, lot, choice, number: choice_told(choice, lot) == number,
    "clear": lambda kinds, lot, offers: len(nearest_told(kinds, offers, lot)) > 1,
    "full": lambda kinds, lot, offers: len(nearest_told(kinds, offers, lot)) == 0,
    "any order": lambda kinds, lot, rows: any(
        one != other for one, other in itertools.combinations(rows_holding(rows, lot), 2)),
}


def looked_up_against(kinds, wish, lot):
    """Whether a lot is against a wish, by the words of point 14."""
    return AGAINST[wish[0]](kinds, lot, *wish[1:])


def tried_against(kinds, wish):
    """The first of lots that is against a wish."""
    for lot in tried_lots(kinds):
        if looked_up_against(kinds, wish, lot):
            return lot
    return None


def with_closed(kinds, some):
    return Kinds(kinds.elders, tuple(sorted(set(kinds.closed) | set(some))), kinds.hollow, kinds.several)


def enough_closings(kinds, wish):
    """All sets of kinds that are not closed that are enough for a wish, by length, then ascending."""
    left = [kind for kind in range(len(kinds.elders)) if kind not in kinds.closed]
    every = [some for many in range(len(left) + 1) for some in itertools.combinations(left, many)]
    return [some for some in every if tried_against(with_closed(kinds, some), wish) is None]


def tried_closings(kinds, wish):
    enough = enough_closings(kinds, wish)
    return tuple(some for some in enough if not any(set(less) < set(some) for less in enough))
