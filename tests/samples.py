"""Values that several test files use."""

import unittest

from kindstocome.errors import BadKinds, KindError, NoKind
from kindstocome.hierarchies import Kinds
from kindstocome.shelves import LoggedShelf, Shelf, WishShelf

BIG = 10 ** 39


def example():
    """The K of the document's examples."""
    return Kinds(((), (0,), (0,), (1, 2), (0,)), (4,), (0,), True)


def nested(depth, wrap):
    value = 0
    for step in range(depth):
        value = wrap(value)
    return value


def any_values():
    """Values of all the kinds that the document calls any value, made anew by each call."""
    return [
        None, True, False, 0, 1, -1, 5, 6, BIG, -BIG, "", "a", "0", "elders", "x" * 4000, "a\n\tb ~",
        (), (0,), (1,), (-1,), (0, 1), (1, 0), (0, 0), (True,), (False,), (None,), ("0",), ((),), ((0,),), ([],),
        [], [0], [()], [[]], [(), (0,)], {}, {0: 1}, {"a": []}, (0, 1, 2, 3, 4, 5), (0, 1, 2, 3, 4, 5, 6),
        tuple(range(3000)), list(range(3000)), ((),) * 7, ((),) * 3000,
        nested(19, lambda inner: (inner,)), nested(19, lambda inner: [inner]), nested(19, lambda inner: {"a": inner}),
        example(), (example(),), (0, example()), [example()], {"k": example()}, BadKinds("elders"), (BadKinds(0),),
        Shelf(example(), 0), (Shelf(example(), 0),), [WishShelf(example(), 0, ())], (0, LoggedShelf(example(), 0), 1),
    ]


def place_of(test, *parts, **named):
    """The place of the BadKinds that Kinds raises for these parts."""
    with test.assertRaises(BadKinds) as caught:
        Kinds(*parts, **named)
    return caught.exception.place


def hierarchies(many):
    """The elders of all hierarchies of so many kinds."""
    if many == 0:
        return [()]
    out = []
    for elders in hierarchies(many - 1):
        for own in subsets(range(many - 1)):
            out.append(elders + (own,))
    return out


def subsets(items):
    """All ascending tuples of these items, which are ascending."""
    out = [()]
    for item in items:
        out = out + [some + (item,) for some in out]
    return out


# The T and the R of the document's examples.
TREE = (1, (2, 7, 5), (2, 6, 0))
ROWS = ((((1, True),), 5), (((2, True),), 6))

# Put into the place of a part of a right value, each of these tells whether the part is looked at.
STRANGE = (None, True, False, -1, 0, 1, 5, 6, 9, 10, BIG, "", "0", (), (0,), (0, True), (0, 1, 2), [], [0], {}, {0: 1})


def variants(value):
    """Values that differ from value at one place: a part replaced, left out or put in twice, or a list for a tuple."""
    out = list(STRANGE)
    if isinstance(value, tuple):
        out.append(list(value))
        for at, item in enumerate(value):
            out.extend([value[:at] + value[at + 1:], value[:at] + (item, item) + value[at + 1:]])
            out.append(value[:at] + value[at:][::-1])
            out.extend([value[:at] + (other,) + value[at + 1:] for other in variants(item)])
        out.extend([value + (strange,) for strange in STRANGE])
    return out


def kinds_told(kinds):
    return (kinds.elders, kinds.closed, kinds.hollow, kinds.several)


def picture(value):
    """A value that is equal for equal values of the same classes at every depth alone."""
    if isinstance(value, Kinds):
        return ("Kinds", picture(kinds_told(value)))
    if isinstance(value, Shelf):
        return shelf_picture(value)
    if isinstance(value, (KindError, NoKind)):
        return (type(value).__name__, [picture(field) for field in vars(value).values()])
    if isinstance(value, (tuple, list)):
        return (type(value).__name__, [picture(item) for item in value])
    if isinstance(value, dict):
        return ("dict", [(picture(key), picture(value[key])) for key in value])
    return (type(value).__name__, str(value))


def shelf_picture(shelf):
    """All that a shelf tells of itself."""
    more = shelf.wishes if isinstance(shelf, WishShelf) else shelf.log if isinstance(shelf, LoggedShelf) else ()
    told = (shelf.kinds, shelf.choice, shelf.version, shelf.news, more, str(shelf))
    return (type(shelf).__name__, picture(told))


def outcome(function, *arguments, **named):
    """A picture of what a call returns, or of the error of this package that it raises."""
    try:
        return ("told", picture(function(*arguments, **named)))
    except (KindError, NoKind) as error:
        return ("raised", picture(error))


def raised(name, *fields):
    """The outcome of a call that raises the error with this name and these fields."""
    return ("raised", (name, [picture(field) for field in fields]))


def returned(value):
    """The outcome of a call that returns this value."""
    return ("told", picture(value))


def is_plain(value):
    """Whether value is made of integers, strings, True, False and None, with tuples at every depth."""
    if type(value) is tuple:
        return all(is_plain(item) for item in value)
    return value is None or type(value) in (int, bool, str)


class Asking(unittest.TestCase):
    """A test whose calls are looked at for what holds of all functions."""

    def ask(self, function, *arguments, **named):
        """What the function returns: twice the same, made of plain values, with its arguments left as they are."""
        ahead = picture([*arguments, *named.values()])
        result = function(*arguments, **named)
        self.assertEqual(picture(function(*arguments, **named)), picture(result))
        self.assertEqual(picture([*arguments, *named.values()]), ahead)
        self.assertTrue(is_plain(result), result)
        return result

    def is_so(self, function, kinds, value, wanted):
        """Asks whether value is so; what is told is True or False itself."""
        self.assertIs(self.ask(function, kinds, value), wanted, (function.__name__, kinds_told(kinds), value))
