"""The smallest trees that are alike to a choice.

A case is a pair of a lot and its answer. Where a tree has come by some tests, a part of the
cases is left, and what is least for the rest of the tree hangs on this part alone.
"""

from kindstocome.bounds import MAX_TESTS
from kindstocome.choices import answer
from kindstocome.errors import TooMany
from kindstocome.lots import lots


def cases_of(kinds, choice):
    """All cases of a choice."""
    return tuple([(lot, answer(choice, lot)) for lot in lots(kinds)])


def is_settled(cases):
    """Whether an answer alone is enough for these cases."""
    return len(set([number for lot, number in cases])) <= 1


def sides(cases, kind):
    """The cases that go on by yes, and those that go on by no, if this kind is tested."""
    yes = tuple([case for case in cases if kind in case[0]])
    no = tuple([case for case in cases if kind not in case[0]])
    return (yes, no)


def telling(cases):
    """The kinds, ascending, that some of these cases have and some lack: a test of another one tells nothing."""
    found = sorted(set([kind for lot, number in cases for kind in lot]))
    return [kind for kind in found if not all([kind in lot for lot, number in cases])]


def both(one, other):
    """The number of tests of two sides together."""
    return one + other


def deeper(one, other):
    """The depth of two sides together."""
    return max(one, other)


def least(cases, together, known):
    """The least number, as together counts it, of a tree for these cases; known keeps what is found on the way."""
    if is_settled(cases):
        return 0
    if cases not in known:
        known[cases] = min([least_behind(cases, kind, together, known) for kind in telling(cases)])
    return known[cases]


def least_behind(cases, kind, together, known):
    """The least number, as together counts it, of a tree for these cases that begins with this kind."""
    yes, no = sides(cases, kind)
    return 1 + together(least(yes, together, known), least(no, together, known))


def beginnings(cases, known):
    """The kinds with which a tree with the fewest tests for these cases can begin."""
    if is_settled(cases):
        return []
    fewest = least(cases, both, known)
    return [kind for kind in telling(cases) if least_behind(cases, kind, both, known) == fewest]


def grown(cases, known):
    """A tree with the fewest tests for these cases."""
    starts = beginnings(cases, known)
    if len(starts) > 0:
        yes, no = sides(cases, starts[0])
        return (starts[0], grown(yes, known), grown(no, known))
    if len(cases) > 0:
        return cases[0][1]
    # Without lots every answer is alike to the choice.
    return 0


def fewest_tests(kinds, choice):
    """The fewest tests of all trees that are alike to a choice."""
    return least(cases_of(kinds, choice), both, {})


def least_depth(kinds, choice):
    """The least depth of all trees that are alike to a choice."""
    return least(cases_of(kinds, choice), deeper, {})


def first_tests(kinds, choice):
    """The kinds with which a tree with the fewest tests can begin, () if an answer alone is enough."""
    return tuple(beginnings(cases_of(kinds, choice), {}))


def smallest(kinds, choice):
    """A tree with the fewest tests that is alike to a choice."""
    cases = cases_of(kinds, choice)
    known = {}
    if least(cases, both, known) > MAX_TESTS:
        raise TooMany(MAX_TESTS)
    return grown(cases, known)
