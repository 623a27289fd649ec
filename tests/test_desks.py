"""Point 22: desks."""

import itertools
import unittest

from drawing import drawn
from kindstocome.choices import answer
from kindstocome.desks import Desk
from kindstocome.hierarchies import Kinds
from kindstocome.lots import lots
from kindstocome.shelves import LoggedShelf, Shelf, WishShelf
from kindstocome.trees import fewest_tests
from samples import ROWS, TREE, any_values, example, kinds_told, outcome, picture, shelf_picture

CLEAR = ("clear", ((1, 5), (2, 6), (3, 7)))
NO_LOTS = Kinds(((), (0,)), (0, 1), (0, 1), True)
NUMERALS = [str(number) for number in range(100)]


def looked_up(shelf, line):
    """The answer to a line by the words of point 22; the shelf is edited by it."""
    if type(line) is not str:
        return "what"
    words = [word for word in line.split(" ") if word != ""]
    if not words or not all(word in NUMERALS for word in words[1:]):
        return "what"
    numbers = tuple(int(word) for word in words[1:])
    form = (words[0], len(numbers))
    edits = {("close", 1): ("close", *numbers), ("reopen", 1): ("reopen", *numbers), ("undo", 0): ("undo",)}
    if form in edits or words[0] == "kind":
        name, *arguments = edits.get(form, ("add", numbers, False, False))
        told, value = outcome(getattr(shelf, name), *arguments)
        return f"ok {value[1]}" if told == "told" else f"no {value[0]}"
    some = lots(shelf.kinds)
    if form == ("lots", 0):
        return ", ".join(" ".join(map(str, lot)) for lot in some) or "-"
    if form == ("tests", 0):
        return str(fewest_tests(shelf.kinds, shelf.choice))
    if form == ("closed", 0):
        return " ".join(map(str, shelf.kinds.closed)) or "-"
    if words[0] == "answer" and numbers and list(numbers) == sorted(set(numbers)):
        return str(answer(shelf.choice, numbers)) if numbers in some else "no lot"
    return "what"


class Desks(unittest.TestCase):
    def setUp(self):
        self.shelf = Shelf(example(), TREE)
        self.desk = Desk(self.shelf)

    def say(self, line, wanted):
        """Says a line; what is told is held against the words of point 22, and so is the shelf behind it."""
        other = self.shelf.twin()
        passed = picture(line)
        told = self.desk.say(line)
        self.assertIs(type(told), str)
        self.assertEqual(told, wanted, line)
        self.assertEqual(looked_up(other, line), wanted, line)
        self.assertEqual(shelf_picture(self.shelf), shelf_picture(other))
        self.assertEqual(picture(line), passed)

    def on(self, shelf):
        self.shelf = shelf
        self.desk = Desk(shelf)

    def nothing(self, *lines):
        """Lines that are answered "what" and change nothing."""
        for line in lines:
            ahead = shelf_picture(self.shelf)
            self.say(line, "what")
            self.assertEqual(shelf_picture(self.shelf), ahead)


class TestEdits(Desks):
    def test_close_and_reopen(self):
        self.say("close 1", "ok 1")
        self.assertEqual(self.shelf.kinds, example().closing((1,)))
        self.say("reopen 4", "ok 2")
        self.say("close 0", "ok 3")
        self.assertEqual(self.shelf.kinds.closed, (0, 1))

    def test_undo(self):
        self.say("close 1", "ok 1")
        self.say("close 2", "ok 2")
        self.say("undo", "ok 1")
        self.say("undo", "ok 0")
        self.say("undo", "no NothingToUndo")
        self.assertEqual(self.shelf.kinds, example())

    def test_kind(self):
        self.say("kind 1 4", "ok 1")
        self.assertEqual(kinds_told(self.shelf.kinds), (example().elders + ((1, 4),), (4,), (0,), True))
        self.say("undo", "ok 0")
        self.say("kind", "ok 1")
        self.assertEqual(kinds_told(self.shelf.kinds), (example().elders + ((),), (4,), (0,), True))
        self.say("kind", "no BadKinds")
        self.say("kind 0", "no BadKinds")

    def test_kinds_that_are_refused(self):
        for line in ("kind 5", "kind 1 0", "kind 0 0", "kind 99", "kind 0 1 2 3 4 5", "kind 4 3 2 1 0",
                "kind 10 11 12"):
            self.say(line, "no BadKinds")
        self.say("kind 0 1 2 3 4", "ok 1")
        self.on(Shelf(Kinds(((), ()), (), (), False), 0))
        self.say("kind 0 1", "no BadKinds")
        self.say("kind 1", "ok 1")

    def test_errors(self):
        for line in ("close 5", "close 99", "reopen 5", "reopen 10"):
            self.say(line, "no NoKind")
        for line in ("close 4", "reopen 0", "reopen 3"):
            self.say(line, "no Idle")
        self.assertEqual(self.shelf.version, 0)

    def test_full(self):
        self.shelf.run([("choose", 0)] * 30)
        for line in ("close 1", "close 4", "close 99", "reopen 4", "reopen 77", "kind", "kind 0", "kind 99"):
            self.say(line, "no Full")
        self.say("undo", "ok 29")
        self.say("close 1", "ok 30")
        self.say("close 2", "no Full")

    def test_against(self):
        self.on(WishShelf(example().closing((1,)), TREE, (CLEAR,)))
        self.say("reopen 1", "no Against")
        self.say("kind 1 2", "no Against")
        self.say("kind 1 9", "no BadKinds")
        self.say("reopen 0", "no Idle")
        self.say("close 2", "ok 1")
        self.say("reopen 1", "ok 2")
        self.say("undo", "ok 1")
        self.assertEqual(self.shelf.wishes, (CLEAR,))

    def test_logged(self):
        self.on(LoggedShelf(example(), TREE))
        for line in ("close 1", "close 1", "kind 0", "undo", "lots", "reopen 4", "undo", "x", "tests", "reopen 9"):
            self.say(line, looked_up(self.shelf.twin(), line))
        self.assertEqual(self.shelf.log, (
            ("close", 1), ("add", 2), ("undo", 1), ("reopen", 2), ("undo", 1)))


class TestQuestions(Desks):
    def test_lots(self):
        self.say("lots", "0 1, 0 1 2 3, 0 2, 0 4, 0, 0 1 2")
        self.say("close 1", "ok 1")
        self.say("lots", "0 1, 0 1 2 3, 0 2, 0 4, 0")
        self.on(Shelf(Kinds(((),), (), (), True), 0))
        self.say("lots", "0")
        self.on(Shelf(NO_LOTS, 0))
        self.say("lots", "-")

    def test_answer(self):
        for line, wanted in (("answer 0", "0"), ("answer 0 1", "5"), ("answer 0 2", "6"), ("answer 0 1 2", "7"),
                             ("answer 0 1 2 3", "7"), ("answer 0 4", "0")):
            self.say(line, wanted)
        self.shelf.choose(ROWS)
        self.say("answer 0 1 2", "5")

    def test_no_lot(self):
        for line in ("answer 1", "answer 0 1 4", "answer 0 3", "answer 5", "answer 0 5", "answer 99",
                "answer 0 1 2 3 4",
                     "answer 10 11", "answer 0 1 2 3 4 5 6 7 8 9 10"):
            self.say(line, "no lot")
        self.say("answer " + " ".join(NUMERALS), "no lot")
        self.on(Shelf(NO_LOTS, 0))
        self.say("answer 0", "no lot")

    def test_numbers_that_are_not_ascending(self):
        self.nothing("answer 1 0", "answer 0 0", "answer 0 1 1", "answer 0 2 1", "answer 99 98", "answer 0 5 4",
                     "answer 10 9", "answer 2 1 0")

    def test_answer_without_numbers(self):
        self.nothing("answer", "answer ", " answer  ")

    def test_tests(self):
        self.say("tests", "3")
        self.shelf.choose(ROWS)
        self.say("tests", "2")
        self.shelf.choose(7)
        self.say("tests", "0")
        rows = tuple((tuple((kind, True) for kind in some), number) for some, number in (
            ((0, 1, 2), 1), ((3, 4, 5), 2), ((0, 3), 3), ((1, 4), 4), ((2, 5), 5), ((0, 4), 6)))
        self.on(Shelf(Kinds(((),) * 6, (), (), True), rows))
        self.say("tests", "21")

    def test_closed(self):
        self.say("closed", "4")
        self.say("close 0", "ok 1")
        self.say("closed", "0 4")
        self.say("close 2", "ok 2")
        self.say("closed", "0 2 4")
        self.on(Shelf(Kinds(((),), (), (), True), 0))
        self.say("closed", "-")

    def test_questions_change_nothing(self):
        ahead = shelf_picture(self.shelf)
        for line in ("lots", "answer 0", "answer 1", "tests", "closed"):
            self.desk.say(line)
        self.assertEqual(shelf_picture(self.shelf), ahead)


class TestForms(Desks):
    def test_blanks(self):
        for line, wanted in (("  lots", "0 1, 0 1 2 3, 0 2, 0 4, 0, 0 1 2"), ("tests   ", "3"), ("  closed  ", "4"),
                             ("   answer    0   1 2   ", "7"), ("  close   1 ", "ok 1"), (" reopen  1", "ok 2"),
                             ("   undo ", "ok 1"), ("  kind   0    1  ", "ok 2")):
            self.say(line, wanted)

    def test_no_words(self):
        self.nothing("", " ", "     ")

    def test_words_left_out_put_in_or_exchanged(self):
        self.nothing(
            "close", "reopen", "close 1 2", "reopen 4 0", "close x", "close 1 x", "1 close", "1", "0 1", "undo 1",
            "undo undo",
            "undo 0", "lots 0", "lots lots", "tests 1", "closed 4", "kind x", "kind 0 closed", "kind hollow",
            "kind 0 x",
            "kinds", "add", "add 0", "choose 5", "run", "twin", "version", "history", "news", "answers 0", "lot 0",
            "test",
            "Close 1", "LOTS", "Undo", "closed closed", "close 1, 2", "close1", "kind0", "answer x", "answer 0 x",
            "answer 0,1", "answer -1", "what", "no", "ok", "ok 1", "no lot", "several", "single", "lots tests")

    def test_numbers(self):
        for word in ("00", "01", "001", "100", "123", "-1", "+1", "1.", "1_0", "0x1", "9" * 40):
            self.nothing(f"close {word}", f"reopen {word}", f"kind {word}", f"kind 0 {word}", f"answer {word}",
                         f"answer 0 {word}", f"answer 100 {word}")

    def test_signs_like_any_other(self):
        self.nothing("#", "# lots", "lots #", "lots#", "close 1#", "close 1 # x", "#lots", "kind 0 #", "undo#",
            "tests # 1")
        self.nothing("lots\n", "\nlots", "close\n1", "close 1\n", "undo\n", "\n", "lots\nlots", "answer 0\n",
            "close 1\nx")
        self.nothing("lots\t", "\tlots", "close\t1", "close 1\t", "\t", "answer\t0", "answer 0\t1", "kind\t", "undo \t")

    def test_no_strings(self):
        for value in any_values() + [["lots"], ("lots",), ("close", 1), {"lots": 1}]:
            if not isinstance(value, str):
                self.nothing(value)

    def test_any_value(self):
        for value in any_values():
            self.say(value, looked_up(self.shelf.twin(), value))

    def test_words_in_any_order(self):
        words = ("close", "reopen", "undo", "kind", "lots", "answer", "tests", "closed", "0", "1", "4", "01", "x")
        for some in itertools.chain(*[itertools.product(words, repeat=many) for many in (1, 2, 3)]):
            self.on(Shelf(example(), TREE))
            line = " ".join(some)
            self.assertEqual(self.desk.say(line), looked_up(Shelf(example(), TREE), line), line)

    def test_by_name(self):
        self.assertEqual(Desk(shelf=self.shelf).say(line="tests"), "3")


class TestHistory(Desks):
    def test_at_first(self):
        self.assertEqual(picture(self.desk.history), picture(()))

    def test_pairs_in_the_order_of_the_calls(self):
        for line in ("close 1", "  lots ", "x\n", "", "close 1"):
            self.desk.say(line)
        self.assertEqual(picture(self.desk.history), picture((
            ("close 1", "ok 1"), ("  lots ", "0 1, 0 1 2 3, 0 2, 0 4, 0"), ("x\n", "what"), ("", "what"),
            ("close 1", "no Idle"))))

    def test_none_for_what_is_no_string(self):
        for value in (None, 5, True, ["lots"], ("lots",), {"lots": 1}, example()):
            self.desk.say(value)
        self.desk.say("tests")
        self.assertEqual(self.desk.history, ((None, "what"),) * 7 + (("tests", "3"),))

    def test_the_last_twenty(self):
        pairs = []
        for step in range(50):
            line = f"answer {step}" if step % 3 else None
            pairs.append((line, self.desk.say(line)))
            self.assertEqual(self.desk.history, tuple(pairs[-20:]))
        self.assertEqual(len(self.desk.history), 20)

    def test_what_was_told_stays_as_it_is(self):
        self.desk.say("tests")
        told = self.desk.history
        self.desk.say("lots")
        self.assertEqual(told, (("tests", "3"),))

    def test_can_only_be_read(self):
        with self.assertRaises(AttributeError):
            self.desk.history = ()

    def test_an_undo_leaves_it(self):
        self.desk.say("close 1"), self.desk.say("undo")
        self.assertEqual(self.desk.history, (("close 1", "ok 1"), ("undo", "ok 0")))


class TestSeveralDesks(Desks):
    def test_two_desks_of_one_shelf(self):
        other = Desk(self.shelf)
        self.assertEqual((self.desk.say("close 1"), other.say("close 1"), other.say("close 2")),
                         ("ok 1", "no Idle", "ok 2"))
        self.assertEqual((self.desk.say("closed"), self.desk.say("undo"), other.say("closed")), ("1 2 4", "ok 1",
            "1 4"))
        self.assertEqual(self.desk.history, (("close 1", "ok 1"), ("closed", "1 2 4"), ("undo", "ok 1")))
        self.assertEqual(other.history, (("close 1", "no Idle"), ("close 2", "ok 2"), ("closed", "1 4")))

    def test_a_desk_of_a_twin(self):
        self.desk.say("close 1")
        other = Desk(self.shelf.twin())
        self.assertEqual((other.say("undo"), other.say("closed"), self.desk.say("closed")), ("ok 0", "4", "1 4"))
        self.assertEqual(other.history, (("undo", "ok 0"), ("closed", "4")))

    def test_this_very_shelf(self):
        self.shelf.close(1)
        self.say("closed", "1 4")
        self.shelf.choose(3)
        self.say("answer 0", "3")
        self.say("undo", "ok 1")
        self.assertEqual(self.shelf.choice, TREE)

    def test_each_class(self):
        for shelf in (Shelf(example(), TREE), WishShelf(example(), TREE, ()), LoggedShelf(example(), TREE)):
            self.on(shelf)
            for line, wanted in (("kind 1", "ok 1"), ("close 5", "ok 2"), ("answer 0 1 5", "5"), ("undo", "ok 1"),
                                 ("undo", "ok 0"), ("undo", "no NothingToUndo"), ("answer 0 1 5", "no lot")):
                self.say(line, wanted)

    def test_drawn_lines(self):
        words = ("close", "reopen", "undo", "kind", "lots", "answer", "tests", "closed")
        for kinds, draw in drawn(120, 60):
            self.on(draw.one((Shelf, LoggedShelf))(kinds, draw.choice(kinds)))
            for step in range(15):
                parts = [draw.one(words)] + [str(kind) for kind in draw.some(range(7), 3)]
                line = draw.one(("", " ")) + draw.one((" ", "  ")).join(parts)
                self.say(line, looked_up(self.shelf.twin(), line))


class TestExampleOfPoint22(unittest.TestCase):
    def test_example(self):
        told = [Desk(Shelf(example(), TREE)).say(line) for line in ("answer 0 1 2", "close 4", "close 1")]
        self.assertEqual(told, ["7", "no Idle", "ok 1"])


if __name__ == "__main__":
    unittest.main()
