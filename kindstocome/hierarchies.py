"""Hierarchies of kinds: which kinds lie under which, closed or hollow or not."""

from kindstocome.bounds import MAX_KINDS
from kindstocome.checks import is_ascending, is_bool
from kindstocome.errors import BadKinds


def are_elders(value, kind, several):
    """Whether value can be the elders of the kind with this number."""
    if not is_ascending(value, kind):
        return False
    # Not "not several": what is neither True nor False is told of by a place of its own.
    return several is not False or len(value) <= 1


def wrong_elders(elders, several):
    """The first index of elders that is not so, None if there is none."""
    for kind, value in enumerate(elders):
        if not are_elders(value, kind, several):
            return kind
    return None


def wrong_place(elders, closed, hollow, several):
    """The place for BadKinds, None if these are the parts of Kinds."""
    if not isinstance(elders, tuple) or not 1 <= len(elders) <= MAX_KINDS:
        return "elders"
    kind = wrong_elders(elders, several)
    if kind is not None:
        return kind
    if not is_ascending(closed, len(elders)):
        return "closed"
    if not is_ascending(hollow, len(elders)):
        return "hollow"
    if not is_bool(several):
        return "several"
    return None


def table_above(elders):
    """For each kind, the ascending tuple of the kinds under which it lies."""
    table = []
    for kind, own in enumerate(elders):
        found = [kind]
        for elder in own:
            # Elders have lower numbers, so their rows stand in the table already.
            found.extend(table[elder])
        table.append(tuple(sorted(set(found))))
    return tuple(table)


def several_words(several):
    """The end of the text that str tells of kinds."""
    if several:
        return "several elders"
    return "one elder"


class Kinds:
    """A hierarchy of the kinds 0 to n - 1. It never changes."""

    def __init__(self, elders, closed, hollow, several):
        place = wrong_place(elders, closed, hollow, several)
        if place is not None:
            raise BadKinds(place)
        self.kept_elders = elders
        self.kept_closed = closed
        self.kept_hollow = hollow
        self.kept_several = several
        self.kept_above = table_above(elders)

    @property
    def elders(self):
        """The ascending tuple of its elders, for each kind."""
        return self.kept_elders

    @property
    def closed(self):
        """The kinds directly under which strangers put no kind."""
        return self.kept_closed

    @property
    def hollow(self):
        """The kinds of which no thing is directly."""
        return self.kept_hollow

    @property
    def several(self):
        """Whether a kind may have more than one elder."""
        return self.kept_several

    def above(self, kind):
        """The kinds under which kind lies, itself among them."""
        return self.kept_above[kind]

    def is_under(self, one, other):
        """Whether one lies under other."""
        return other in self.kept_above[one]

    def heirs(self, kind):
        """The kinds of which kind is an elder."""
        return tuple([heir for heir, own in enumerate(self.kept_elders) if kind in own])

    def opened(self):
        """The kinds that are not closed."""
        return tuple([kind for kind in range(len(self.kept_elders)) if kind not in self.kept_closed])

    def closing(self, some):
        """These kinds with some of them closed besides."""
        closed = tuple(sorted(set(self.kept_closed) | set(some)))
        return Kinds(self.kept_elders, closed, self.kept_hollow, self.kept_several)

    def opening(self, some):
        """These kinds with some of them not closed."""
        closed = tuple(sorted(set(self.kept_closed) - set(some)))
        return Kinds(self.kept_elders, closed, self.kept_hollow, self.kept_several)

    def __len__(self):
        return len(self.kept_elders)

    def __eq__(self, other):
        return (
            isinstance(other, Kinds)
            and self.kept_elders == other.kept_elders
            and self.kept_closed == other.kept_closed
            and self.kept_hollow == other.kept_hollow
            and self.kept_several == other.kept_several
        )

    def __str__(self):
        return ", ".join([
            f"{len(self.kept_elders)} kinds",
            f"{len(self.kept_closed)} closed",
            f"{len(self.kept_hollow)} hollow",
            several_words(self.kept_several),
        ])
