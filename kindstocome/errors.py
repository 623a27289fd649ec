"""The errors of the package: KindError with all that lie under it, and NoKind.

No class here hands its fields on to the class above: Python itself keeps the
arguments by which an error is made, so that it can be shown and copied.
"""


class KindError(ValueError):
    """What all errors of this package but NoKind lie under."""


class Against(KindError):
    """The wish with this index is not kept: this lot is against it."""

    def __init__(self, index, lot):
        self.index = index
        self.lot = lot


class BadChoice(KindError):
    """A value is neither a tree nor rows."""


class BadEdits(KindError):
    """The item with this index is no edit; with None, the whole is no tuple or list."""

    def __init__(self, index):
        self.index = index


class BadKinds(KindError):
    """Kinds are not as they must be at this place."""

    def __init__(self, place):
        self.place = place


class BadText(KindError):
    """A text of kinds is wrong at this line, in the way that the code tells."""

    def __init__(self, line, code):
        self.line = line
        self.code = code


class BadTree(KindError):
    """A text of a tree is wrong at this place."""

    def __init__(self, place):
        self.place = place


class BadWishes(KindError):
    """A value is no tuple of wishes."""


class Full(KindError):
    """As many edits as there may be are in effect."""


class Idle(KindError):
    """An edit would change nothing."""


class NothingToUndo(KindError):
    """No edit is in effect."""


class Rejected(KindError):
    """The edit with this index raised this error."""

    def __init__(self, index, error):
        self.index = index
        self.error = error


class TooMany(KindError):
    """More would be needed than this limit allows."""

    def __init__(self, limit):
        self.limit = limit


class NoKind(LookupError):
    """There is no such kind."""

    def __init__(self, kind):
        self.kind = kind
