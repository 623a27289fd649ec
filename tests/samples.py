"""Values that several test files use."""

from kindstocome.errors import BadKinds
from kindstocome.hierarchies import Kinds

BIG = 10 ** 39


def example():
    """The K of the document's examples."""
    return Kinds(((), (0,), (0,), (1, 2), (0,)), (4,), (0,), True)


def nested(depth, wrap):
    value = 0
    for step in range(depth):
        value = wrap(value)
    return value


def any_values():
    """Values of all the kinds that the document calls any value, made anew by each call."""
    return [
        None, True, False, 0, 1, -1, 5, 6, BIG, -BIG, "", "a", "0", "elders", "x" * 4000, "a\n\tb ~",
        (), (0,), (1,), (-1,), (0, 1), (1, 0), (0, 0), (True,), (False,), (None,), ("0",), ((),), ((0,),), ([],),
        [], [0], [()], [[]], [(), (0,)], {}, {0: 1}, {"a": []}, (0, 1, 2, 3, 4, 5), (0, 1, 2, 3, 4, 5, 6),
        tuple(range(3000)), list(range(3000)), ((),) * 7, ((),) * 3000,
        nested(19, lambda inner: (inner,)), nested(19, lambda inner: [inner]), nested(19, lambda inner: {"a": inner}),
        example(), (example(),), (0, example()), [example()], {"k": example()}, BadKinds("elders"), (BadKinds(0),),
    ]


def place_of(test, *parts, **named):
    """The place of the BadKinds that Kinds raises for these parts."""
    with test.assertRaises(BadKinds) as caught:
        Kinds(*parts, **named)
    return caught.exception.place


def hierarchies(many):
    """The elders of all hierarchies of so many kinds."""
    if many == 0:
        return [()]
    out = []
    for elders in hierarchies(many - 1):
        for own in subsets(range(many - 1)):
            out.append(elders + (own,))
    return out


def subsets(items):
    """All ascending tuples of these items, which are ascending."""
    out = [()]
    for item in items:
        out = out + [some + (item,) for some in out]
    return out
