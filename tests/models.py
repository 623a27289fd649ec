"""A second shelf: all that points 19 and 20 say, told anew from the edits in effect by each question."""

from kindstocome.hierarchies import Kinds
from oracles import choice_told, is_integer_below, right_choice, right_wish, tried_against, tried_lots
from samples import kinds_told, picture

COUNTS = {"add": 4, "close": 2, "reopen": 2, "choose": 2}


class Refused(Exception):
    """An error, told by its name and its fields."""

    def __init__(self, name, *fields):
        super().__init__(name)
        self.picture = (name, [picture(field) for field in fields])


def right_elders(value, many, several):
    if type(value) is not tuple or not all(is_integer_below(elder, many) for elder in value):
        return False
    return list(value) == sorted(set(value)) and (several or len(value) <= 1)


def added(parts, elders, closed, hollow):
    all_elders, all_closed, all_hollow, several = parts
    many = len(all_elders)
    if many == 6:
        raise Refused("BadKinds", "full")
    if not right_elders(elders, many, several):
        raise Refused("BadKinds", "elders")
    if type(closed) is not bool:
        raise Refused("BadKinds", "closed")
    if type(hollow) is not bool:
        raise Refused("BadKinds", "hollow")
    return (all_elders + (elders,), all_closed + (many,) * closed, all_hollow + (many,) * hollow, several)


def exchanged(parts, kind, was_closed):
    """The parts of kinds with a kind closed, or not closed any more."""
    elders, closed, hollow, several = parts
    if not is_integer_below(kind, len(elders)):
        raise Refused("NoKind", kind)
    if (kind in closed) is not was_closed:
        raise Refused("Idle")
    return (elders, tuple(sorted(set(closed) ^ {kind})), hollow, several)


def behind(stand, edit):
    """The stand, a pair of the parts of kinds and a choice, behind an edit."""
    parts, choice = stand
    if edit[0] == "add":
        return (added(parts, *edit[1:]), choice)
    if edit[0] == "close":
        return (exchanged(parts, edit[1], False), choice)
    if edit[0] == "reopen":
        return (exchanged(parts, edit[1], True), choice)
    if not right_choice(Kinds(*parts), edit[1]):
        raise Refused("BadChoice")
    return (parts, edit[1])


def told_of(stand):
    """The set of the answers of a stand."""
    return {choice_told(stand[1], lot) for lot in tried_lots(Kinds(*stand[0]))}


def right_edit(value):
    if type(value) is not tuple or value == () or type(value[0]) is not str:
        return False
    return COUNTS.get(value[0]) == len(value)


class Model:
    """What a shelf of the class with this name has to tell."""

    def __init__(self, name, kinds, choice, wishes=()):
        self.name = name
        self.first = (kinds_told(kinds), choice)
        self.wishes = wishes
        self.edits = ()
        self.news = ((), ())
        self.log = ()
        if not right_choice(kinds, choice):
            raise Refused("BadChoice")
        if type(wishes) is not tuple or len(wishes) > 3 or not all(right_wish(kinds, wish) for wish in wishes):
            raise Refused("BadWishes")
        self.hold_wishes(self.first)

    def hold_wishes(self, stand):
        for index, wish in enumerate(self.wishes):
            lot = tried_against(Kinds(*stand[0]), wish)
            if lot is not None:
                raise Refused("Against", index, lot)

    def stand(self):
        stand = self.first
        for edit in self.edits:
            stand = behind(stand, edit)
        return stand

    def try_one(self, edits, edit):
        """The edits in effect with one more."""
        if len(edits) == 30:
            raise Refused("Full")
        stand = self.first
        for each in edits + (edit,):
            stand = behind(stand, each)
        if edit[0] != "choose":
            self.hold_wishes(stand)
        return edits + (edit,)

    def end(self, name, edits):
        old = told_of(self.stand())
        self.edits = edits
        new = told_of(self.stand())
        self.news = (tuple(sorted(old - new)), tuple(sorted(new - old)))
        self.log += ((name, len(edits)),)
        return len(edits)

    def call(self, name, *arguments):
        """What an editing method, undo or run returns."""
        if name == "undo":
            if not self.edits:
                raise Refused("NothingToUndo")
            return self.end("undo", self.edits[:-1])
        if name == "run":
            return self.end("run", self.tried_run(*arguments))
        return self.end(name, self.try_one(self.edits, (name, *arguments)))

    def tried_run(self, some):
        if type(some) not in (tuple, list):
            raise Refused("BadEdits", None)
        for index, edit in enumerate(some):
            if not right_edit(edit):
                raise Refused("BadEdits", index)
        edits = self.edits
        for index, edit in enumerate(some):
            try:
                edits = self.try_one(edits, edit)
            except Refused as error:
                again = Refused("Rejected", index)
                again.picture = ("Rejected", [picture(index), error.picture])
                raise again from None
        return edits

    def twin(self):
        other = Model(self.name, Kinds(*self.first[0]), self.first[1], self.wishes)
        other.edits, other.news, other.log = self.edits, self.news, self.log
        return other

    def picture(self):
        """What samples.picture tells of a shelf that is as it has to be."""
        parts, choice = self.stand()
        more = {"Shelf": (), "WishShelf": self.wishes, "LoggedShelf": self.log}[self.name]
        many = len(self.edits)
        return (self.name, picture((Kinds(*parts), choice, many, self.news, more, f"shelf at version {many}")))


def model_outcome(function, *arguments):
    """What samples.outcome tells of a call that is as it has to be."""
    try:
        return ("told", picture(function(*arguments)))
    except Refused as error:
        return ("raised", error.picture)
