"""Choices: trees of tests, and rows of needs, with their answers of lots."""

from kindstocome.bounds import MAX_ANSWER, MAX_NEEDS, MAX_ROWS, MAX_TESTS
from kindstocome.checks import is_ascending, is_bool, is_index, is_number, is_pair
from kindstocome.lots import lots


def is_answer(value):
    """Whether value is an answer."""
    return is_index(value, MAX_ANSWER + 1)


def has_form_of_tree(kinds, value):
    """Whether value is a tree, if any number of tests is allowed."""
    if not isinstance(value, tuple):
        return is_answer(value)
    if len(value) != 3 or not is_index(value[0], len(kinds)):
        return False
    return has_form_of_tree(kinds, value[1]) and has_form_of_tree(kinds, value[2])


def is_tree(kinds, value):
    """Whether value is a tree of tests of these kinds."""
    return has_form_of_tree(kinds, value) and tests(value) <= MAX_TESTS


def tests(tree):
    """The number of the triples of a tree."""
    if is_number(tree):
        return 0
    return 1 + tests(tree[1]) + tests(tree[2])


def depth(tree):
    """The greatest number of triples of a tree that stand within one another."""
    if is_number(tree):
        return 0
    return 1 + max(depth(tree[1]), depth(tree[2]))


def is_need(value):
    """Whether value is a pair of anything and of True or False."""
    return is_pair(value) and is_bool(value[1])


def are_needs(kinds, value):
    """Whether value is the needs of a row."""
    if not isinstance(value, tuple) or len(value) > MAX_NEEDS:
        return False
    if not all([is_need(item) for item in value]):
        return False
    return is_ascending(tuple([item[0] for item in value]), len(kinds))


def is_row(kinds, value):
    """Whether value is a pair of needs and an answer."""
    return is_pair(value) and are_needs(kinds, value[0]) and is_answer(value[1])


def is_rows(kinds, value):
    """Whether value is rows with needs of these kinds."""
    if not isinstance(value, tuple) or len(value) > MAX_ROWS:
        return False
    return all([is_row(kinds, item) for item in value])


def is_choice(kinds, value):
    """Whether value is a tree or rows of these kinds."""
    return is_tree(kinds, value) or is_rows(kinds, value)


def needs_hold(needs, lot):
    """Whether all these needs hold of a lot."""
    return all([(kind in lot) == wished for kind, wished in needs])


def chosen(rows, lot):
    """The index of the first row whose needs hold of a lot, None if there is none."""
    for at, row in enumerate(rows):
        if needs_hold(row[0], lot):
            return at
    return None


def is_tree_choice(choice):
    """Whether a choice is a tree, not rows."""
    return is_number(choice) or (len(choice) > 0 and is_number(choice[0]))


def tree_answer(tree, lot):
    """The answer of a tree of a lot."""
    part = tree
    while not is_number(part):
        kind, yes, no = part
        part = yes if kind in lot else no
    return part


def rows_answer(rows, lot):
    """The answer of rows of a lot."""
    at = chosen(rows, lot)
    if at is None:
        return 0
    return rows[at][1]


def answer(choice, lot):
    """The answer of a choice of a lot."""
    if is_tree_choice(choice):
        return tree_answer(choice, lot)
    return rows_answer(choice, lot)


def answers(kinds, choice):
    """The ascending tuple of the answers of a choice of all lots."""
    return tuple(sorted(set([answer(choice, lot) for lot in lots(kinds)])))


def where(kinds, choice, number):
    """The lots of which a choice has this answer, in the order of lots."""
    return tuple([lot for lot in lots(kinds) if answer(choice, lot) == number])
