"""A desk: a shelf that is edited and asked by lines of words."""

from kindstocome.checks import is_ascending, numbers_of, words_of
from kindstocome.choices import answer
from kindstocome.errors import Against, BadKinds, Full, Idle, NoKind, NothingToUndo
from kindstocome.lots import is_lot, lots
from kindstocome.trees import fewest_tests

MAX_HISTORY = 20
WHAT = "what"


def joined_numbers(numbers):
    """Some numbers with a blank between two."""
    return " ".join([str(number) for number in numbers])


def told_lots(kinds):
    """The lots in their order, "-" if there are none."""
    if len(lots(kinds)) == 0:
        return "-"
    return ", ".join([joined_numbers(lot) for lot in lots(kinds)])


def told_closed(kinds):
    """The closed kinds, "-" if there are none."""
    if len(kinds.closed) == 0:
        return "-"
    return joined_numbers(kinds.closed)


def told_answer(kinds, choice, numbers):
    """The answer of a choice of the lot of these numbers."""
    # No kind has a number of more than two digits, so 100 is above all of them.
    if len(numbers) == 0 or not is_ascending(numbers, 100):
        return WHAT
    if not is_lot(kinds, numbers):
        return "no lot"
    return str(answer(choice, numbers))


class Desk:
    """Answers lines, and works on the shelf that it is given."""

    def __init__(self, shelf):
        self.kept_shelf = shelf
        self.kept_history = ()

    @property
    def history(self):
        """The last lines with their answers."""
        return self.kept_history

    def say(self, line):
        """The answer to a line."""
        if isinstance(line, str):
            pair = (line, self.answer_to(words_of(line)))
        else:
            pair = (None, WHAT)
        self.kept_history = (self.kept_history + (pair,))[-MAX_HISTORY:]
        return pair[1]

    def answer_to(self, words):
        """The answer to the words of a line."""
        numbers = numbers_of(words[1:])
        if len(words) == 0 or numbers is None:
            return WHAT
        try:
            version = self.version_behind(words[0], numbers)
        except Against:
            return "no Against"
        except BadKinds:
            return "no BadKinds"
        except Full:
            return "no Full"
        except Idle:
            return "no Idle"
        except NoKind:
            return "no NoKind"
        except NothingToUndo:
            return "no NothingToUndo"
        if version is not None:
            return f"ok {version}"
        return self.asked(words[0], numbers)

    def version_behind(self, word, numbers):
        """Edits the shelf by a word and numbers; the version behind it, None if they tell of no edit."""
        if word == "kind":
            return self.kept_shelf.add(numbers, False, False)
        if word == "undo" and len(numbers) == 0:
            return self.kept_shelf.undo()
        if word == "close" and len(numbers) == 1:
            return self.kept_shelf.close(numbers[0])
        if word == "reopen" and len(numbers) == 1:
            return self.kept_shelf.reopen(numbers[0])
        return None

    def asked(self, word, numbers):
        """What a word and numbers that edit nothing ask for."""
        kinds = self.kept_shelf.kinds
        choice = self.kept_shelf.choice
        if word == "answer":
            return told_answer(kinds, choice, numbers)
        if word == "lots" and len(numbers) == 0:
            return told_lots(kinds)
        if word == "tests" and len(numbers) == 0:
            return str(fewest_tests(kinds, choice))
        if word == "closed" and len(numbers) == 0:
            return told_closed(kinds)
        return WHAT
