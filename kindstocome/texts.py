"""Texts of kinds, a line for each, and texts of trees."""

from kindstocome.bounds import MAX_ANSWER, MAX_KINDS, MAX_TESTS
from kindstocome.checks import DIGITS, is_number, numbers_of, words_of
from kindstocome.errors import BadText, BadTree
from kindstocome.hierarchies import Kinds, are_elders


def kind_text(kinds, kind):
    """The line of a kind, with its line feed."""
    words = ["kind"] + [str(elder) for elder in kinds.elders[kind]]
    if kind in kinds.closed:
        words.append("closed")
    if kind in kinds.hollow:
        words.append("hollow")
    return " ".join(words) + "\n"


def kinds_text(kinds):
    """The text of kinds."""
    first = "several\n" if kinds.several else "single\n"
    return first + "".join([kind_text(kinds, kind) for kind in range(len(kinds))])


def lines_with_words(text):
    """The lines of a text that are not passed over: pairs of their numbers, from 1, and their words."""
    found = []
    for number, line in enumerate(text.split("\n"), start=1):
        words = words_of(line.partition("#")[0])
        if len(words) > 0:
            found.append((number, words))
    return found


def several_of(number, words):
    """Whether the first line with words, which has this number, tells of several elders."""
    if words != ["several"] and words != ["single"]:
        raise BadText(number, 2)
    return words == ["several"]


def kind_parts(words):
    """The elders that the words of a kind tell, and whether it is closed and hollow; None if they are no such words."""
    if words[0] != "kind":
        return None
    rest = words[1:]
    hollow = rest[-1:] == ["hollow"]
    if hollow:
        rest = rest[:-1]
    closed = rest[-1:] == ["closed"]
    if closed:
        rest = rest[:-1]
    elders = numbers_of(rest)
    if elders is None:
        return None
    return (elders, closed, hollow)


def kind_of_line(number, words, kind, several):
    """The parts of this kind as the line with this number tells them."""
    parts = kind_parts(words)
    if parts is None:
        raise BadText(number, 2)
    if kind >= MAX_KINDS or not are_elders(parts[0], kind, several):
        raise BadText(number, 3)
    return parts


def read_kinds(value):
    """The Kinds of a text."""
    if not isinstance(value, str):
        raise BadText(0, 0)
    lines = lines_with_words(value)
    if len(lines) == 0:
        raise BadText(0, 1)
    several = several_of(lines[0][0], lines[0][1])
    parts = [kind_of_line(number, words, kind, several) for kind, (number, words) in enumerate(lines[1:])]
    if len(parts) == 0:
        raise BadText(0, 4)
    closed = tuple([kind for kind, part in enumerate(parts) if part[1]])
    hollow = tuple([kind for kind, part in enumerate(parts) if part[2]])
    return Kinds(tuple([part[0] for part in parts]), closed, hollow, several)


def tree_text(tree):
    """The text of a tree."""
    if is_number(tree):
        return str(tree)
    kind, yes, no = tree
    return f"({kind}? {tree_text(yes)} {tree_text(no)})"


def behind_sign(text, place, wanted):
    """The place behind the sign at this place, which must be one of the wanted ones."""
    if place >= len(text) or text[place] not in wanted:
        raise BadTree(place)
    return place + 1


def tree_at(text, place, room):
    """The tree whose text begins at this place, the place behind it, and how many tests there is room for then."""
    # Kinds and answers have one digit each, and every text that has come so far without one test
    # too many can go on with answers alone: so each sign can be judged where it stands.
    signs = DIGITS[:MAX_ANSWER + 1]
    if room > 0:
        signs = signs + "("
    inner = behind_sign(text, place, signs)
    if text[place] != "(":
        return (int(text[place]), inner, room)
    behind = behind_sign(text, inner, DIGITS[:MAX_KINDS])
    kind = int(text[inner])
    behind = behind_sign(text, behind, "?")
    yes, behind, room = tree_at(text, behind_sign(text, behind, " "), room - 1)
    no, behind, room = tree_at(text, behind_sign(text, behind, " "), room)
    return ((kind, yes, no), behind_sign(text, behind, ")"), room)


def read_tree(value):
    """The tree of a text."""
    if not isinstance(value, str):
        raise BadTree(-1)
    tree, behind, room = tree_at(value, 0, MAX_TESTS)
    if behind < len(value):
        raise BadTree(behind)
    return tree
