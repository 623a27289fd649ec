"""Shelves: kinds and a choice that are kept under edits.

What a shelf keeps is a stand, a pair of kinds and a choice. No stand is ever changed: an edit
makes a new one, so what an error leaves behind is what was there before.
"""

from kindstocome.bounds import MAX_EDITS, MAX_KINDS, MAX_WISHES
from kindstocome.checks import is_bool, is_index
from kindstocome.choices import answer, answers, is_choice
from kindstocome.errors import (
    Against, BadChoice, BadEdits, BadKinds, BadWishes, Full, Idle, KindError, NoKind, NothingToUndo, Rejected)
from kindstocome.hierarchies import Kinds, are_elders
from kindstocome.wishes import first_against, is_wish

ARGUMENTS = {"add": 3, "close": 1, "reopen": 1, "choose": 1}


def wrong_part(kinds, elders, closed, hollow):
    """The place for BadKinds if one kind more with these parts is refused, None if it is not."""
    if len(kinds) >= MAX_KINDS:
        return "full"
    if not are_elders(elders, len(kinds), kinds.several):
        return "elders"
    if not is_bool(closed):
        return "closed"
    if not is_bool(hollow):
        return "hollow"
    return None


def with_new_kind(stand, elders, closed, hollow):
    """A stand with one kind more."""
    kinds, choice = stand
    place = wrong_part(kinds, elders, closed, hollow)
    if place is not None:
        raise BadKinds(place)
    own = (len(kinds),)
    all_closed = kinds.closed + own if closed else kinds.closed
    all_hollow = kinds.hollow + own if hollow else kinds.hollow
    return (Kinds(kinds.elders + (elders,), all_closed, all_hollow, kinds.several), choice)


def with_closed(stand, kind):
    """A stand with a kind closed that was not."""
    kinds, choice = stand
    if not is_index(kind, len(kinds)):
        raise NoKind(kind)
    if kind in kinds.closed:
        raise Idle()
    return (kinds.closing((kind,)), choice)


def with_reopened(stand, kind):
    """A stand with a kind not closed that was."""
    kinds, choice = stand
    if not is_index(kind, len(kinds)):
        raise NoKind(kind)
    if kind not in kinds.closed:
        raise Idle()
    return (kinds.opening((kind,)), choice)


def with_choice(stand, value):
    """A stand with another choice."""
    kinds = stand[0]
    if not is_choice(kinds, value):
        raise BadChoice()
    return (kinds, value)


EDITS = {"add": with_new_kind, "close": with_closed, "reopen": with_reopened, "choose": with_choice}


def edited(stand, edit):
    """The stand behind an edit; raises what the edit itself raises."""
    name, *parts = edit
    change = EDITS[name]
    return change(stand, *parts)


def is_edit(value):
    """Whether value is the name of an editing method with as many arguments as it has."""
    if not isinstance(value, tuple) or len(value) == 0 or not isinstance(value[0], str):
        return False
    return value[0] in ARGUMENTS and len(value) == ARGUMENTS[value[0]] + 1


def check_edits(edits):
    """Raises BadEdits if edits is no tuple or list of edits."""
    if not isinstance(edits, (tuple, list)):
        raise BadEdits(None)
    for index, value in enumerate(edits):
        if not is_edit(value):
            raise BadEdits(index)


def news_between(ahead, behind):
    """The answers that the one stand tells and the other does not, and the other way round."""
    old = answers(ahead[0], ahead[1])
    new = answers(behind[0], behind[1])
    gone = tuple([number for number in old if number not in new])
    return (gone, tuple([number for number in new if number not in old]))


def are_wishes(kinds, value):
    """Whether value is a tuple of wishes of these kinds, not too many."""
    if not isinstance(value, tuple) or len(value) > MAX_WISHES:
        return False
    return all([is_wish(kinds, item) for item in value])


def check_kept(kinds, wishes):
    """Raises Against for the first wish that kinds do not keep."""
    for index, wish in enumerate(wishes):
        lot = first_against(kinds, wish)
        if lot is not None:
            raise Against(index, lot)


class Shelf:
    """Kinds and a choice, with the stands ahead of each edit in effect."""

    def __init__(self, kinds, choice):
        if not is_choice(kinds, choice):
            raise BadChoice()
        self.stand = (kinds, choice)
        self.past = ()
        self.kept_news = ((), ())

    @property
    def kinds(self):
        """The kinds as they are now."""
        return self.stand[0]

    @property
    def choice(self):
        """The choice as it is now."""
        return self.stand[1]

    @property
    def version(self):
        """The number of edits in effect."""
        return len(self.past)

    @property
    def news(self):
        """The answers that went and those that came by the last call that raised nothing."""
        return self.kept_news

    def add(self, elders, closed, hollow):
        """Puts one kind more behind all others."""
        return self.edit(("add", elders, closed, hollow))

    def close(self, kind):
        """Closes a kind."""
        return self.edit(("close", kind))

    def reopen(self, kind):
        """Makes a closed kind one that is not closed."""
        return self.edit(("reopen", kind))

    def choose(self, value):
        """Exchanges the choice."""
        return self.edit(("choose", value))

    def undo(self):
        """Takes the last edit in effect back."""
        if len(self.past) == 0:
            raise NothingToUndo()
        return self.settle("undo", self.past[:-1], self.past[-1])

    def run(self, edits):
        """Does all these edits, or none of them."""
        check_edits(edits)
        past = self.past
        stand = self.stand
        for index, edit in enumerate(edits):
            try:
                behind = self.stand_behind(past, stand, edit)
            except (KindError, NoKind) as error:
                raise Rejected(index, error) from error
            past = past + (stand,)
            stand = behind
        return self.settle("run", past, stand)

    def twin(self):
        """A new shelf like this one."""
        other = Shelf(self.stand[0], self.stand[1])
        other.take_over(self)
        return other

    def edit(self, one):
        """Does one edit, and returns the new version."""
        behind = self.stand_behind(self.past, self.stand, one)
        return self.settle(one[0], self.past + (self.stand,), behind)

    def stand_behind(self, past, stand, one):
        """The stand behind one edit that follows on these; raises the errors of the edit."""
        if len(past) >= MAX_EDITS:
            raise Full()
        behind = edited(stand, one)
        self.look_at(one[0], behind[0])
        return behind

    def look_at(self, name, kinds):
        """Raises what is against the kinds behind the edit with this name; a plain shelf asks nothing of them."""

    def settle(self, name, past, stand):
        """Keeps what the method with this name has led to, and returns the new version."""
        self.kept_news = news_between(self.stand, stand)
        self.past = past
        self.stand = stand
        return len(past)

    def take_over(self, other):
        """Takes over what another shelf has been through."""
        self.past = other.past
        self.kept_news = other.kept_news

    def __call__(self, lot):
        return answer(self.stand[1], lot)

    def __eq__(self, other):
        return isinstance(other, Shelf) and self.stand == other.stand

    def __str__(self):
        return f"shelf at version {len(self.past)}"


class WishShelf(Shelf):
    """A shelf whose kinds always keep some wishes."""

    def __init__(self, kinds, choice, wishes):
        super().__init__(kinds, choice)
        if not are_wishes(kinds, wishes):
            raise BadWishes()
        check_kept(kinds, wishes)
        self.kept_wishes = wishes

    @property
    def wishes(self):
        """The wishes that the kinds keep."""
        return self.kept_wishes

    def look_at(self, name, kinds):
        """Raises Against for the first wish that the kinds behind an edit do not keep."""
        if name != "choose":
            check_kept(kinds, self.kept_wishes)

    def twin(self):
        """A new shelf like this one, with the same wishes."""
        other = WishShelf(self.stand[0], self.stand[1], self.kept_wishes)
        other.take_over(self)
        return other


class LoggedShelf(Shelf):
    """A shelf that keeps a log of the calls that changed it."""

    def __init__(self, kinds, choice):
        super().__init__(kinds, choice)
        self.kept_log = ()

    @property
    def log(self):
        """The pairs of the name of a call and the version behind it, in the order of the calls."""
        return self.kept_log

    def settle(self, name, past, stand):
        """Keeps what the method with this name has led to, and puts it into the log."""
        version = super().settle(name, past, stand)
        self.kept_log = self.kept_log + ((name, version),)
        return version

    def twin(self):
        """A new shelf like this one, with the same log."""
        other = LoggedShelf(self.stand[0], self.stand[1])
        other.take_over(self)
        other.kept_log = self.kept_log
        return other
