"""What parts two choices, what of a choice is reached, and which rows are needed, whatever is added."""

from kindstocome.checks import is_number, parts_of
from kindstocome.choices import answer, chosen, needs_hold
from kindstocome.lots import lots, witness


def parts_at(kinds, one, other):
    """The lots of which two choices have unlike answers, in the order of lots."""
    return tuple([lot for lot in lots(kinds) if answer(one, lot) != answer(other, lot)])


def first_unlike(kinds, one, other):
    """The first lot of which two choices have unlike answers, None if there is none."""
    for lot in lots(kinds):
        if answer(one, lot) != answer(other, lot):
            return lot
    return None


def alike(kinds, one, other):
    """Whether two choices have the same answers of all lots."""
    return first_unlike(kinds, one, other) is None


def first_part(kinds, one, other):
    """The witness of first_unlike and the pair of both answers, None if there is no such lot."""
    lot = first_unlike(kinds, one, other)
    if lot is None:
        return None
    return (witness(kinds, lot), (answer(one, lot), answer(other, lot)))


def reached(kinds, rows):
    """The ascending tuple of the indexes of the rows that are chosen for some lot."""
    indexes = [chosen(rows, lot) for lot in lots(kinds)]
    return tuple(sorted(set([at for at in indexes if at is not None])))


def with_kind(some, kind):
    """Those of some lots that have this kind."""
    return [lot for lot in some if kind in lot]


def without_kind(some, kind):
    """Those of some lots that lack this kind."""
    return [lot for lot in some if kind not in lot]


def ways_on(place, tree, some):
    """The two sides of a tree, yes first: their places, themselves, and those of some lots that go on there."""
    if is_number(tree):
        return []
    kind, yes, no = tree
    return [
        (place + (True,), yes, with_kind(some, kind)),
        (place + (False,), no, without_kind(some, kind)),
    ]


def reached_places(kinds, tree):
    """The places of a tree to which some lot comes, by their length, then with True ahead of False."""
    places = []
    level = [((), tree, lots(kinds))]
    while level:
        below = []
        for place, part, some in level:
            if len(some) > 0:
                places.append(place)
                below.extend(ways_on(place, part, some))
        level = below
    return tuple(places)


def without_idle_tests(tree, some):
    """A tree, to which just these lots come (at least one), without the tests that all lots there answer the same."""
    if is_number(tree):
        return tree
    kind, yes, no = tree
    going_yes = with_kind(some, kind)
    going_no = without_kind(some, kind)
    if len(going_no) == 0:
        return without_idle_tests(yes, going_yes)
    if len(going_yes) == 0:
        return without_idle_tests(no, going_no)
    return (kind, without_idle_tests(yes, going_yes), without_idle_tests(no, going_no))


def without_same_sides(tree):
    """A tree without the tests whose two sides are the same tree, or become the same."""
    if is_number(tree):
        return tree
    yes = without_same_sides(tree[1])
    no = without_same_sides(tree[2])
    if yes == no:
        return yes
    return (tree[0], yes, no)


def trimmed(kinds, tree):
    """A tree without the tests that tell nothing."""
    some = lots(kinds)
    if len(some) == 0:
        return without_same_sides(tree)
    return without_same_sides(without_idle_tests(tree, some))


def is_clash(one, other, some):
    """Whether two rows have unlike answers, and their needs hold both of one of some lots."""
    if one[1] == other[1]:
        return False
    return any([needs_hold(one[0], lot) and needs_hold(other[0], lot) for lot in some])


def first_clash(kinds, rows):
    """The first pair of indexes of two rows whose order matters, None if there is none."""
    some = lots(kinds)
    for low in range(len(rows)):
        for high in range(low + 1, len(rows)):
            if is_clash(rows[low], rows[high], some):
                return (low, high)
    return None


def told(choice, some):
    """The answers of a choice of some lots, one after the other."""
    return [answer(choice, lot) for lot in some]


def spare(kinds, rows):
    """The indexes of the rows each of which can be left out by itself."""
    some = lots(kinds)
    wanted = told(rows, some)
    return tuple([at for at in range(len(rows)) if told(rows[:at] + rows[at + 1:], some) == wanted])


def fewest_rows(kinds, rows):
    """The indexes of the fewest rows that, left alone, are alike to the rows; of several the first one."""
    some = lots(kinds)
    wanted = told(rows, some)
    whole = tuple(range(len(rows)))
    for part in parts_of(whole):
        if told(tuple([rows[at] for at in part]), some) == wanted:
            return part
    return whole
