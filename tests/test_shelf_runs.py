"""Point 19: run, and long rows of calls that are held against a second shelf."""

import unittest

from drawing import Draw, drawn
from kindstocome.errors import Against, BadChoice, BadEdits, BadKinds, Full, Idle, NoKind, Rejected
from kindstocome.hierarchies import Kinds
from kindstocome.shelves import LoggedShelf, Shelf, WishShelf
from models import Model, model_outcome
from oracles import tried_against
from samples import (
    ROWS, STRANGE, TREE, any_values, example, kinds_told, outcome, picture, raised, returned, shelf_picture)

SIX = Kinds(((), (0,), (0,), (1, 2), (0,), ()), (4,), (0,), True)
EDITS = (("close", 1), ("choose", ROWS), ("add", (1, 4), True, False), ("reopen", 4))


def made():
    """A shelf of each class."""
    return [Shelf(example(), TREE), WishShelf(example(), TREE, (("never", TREE, 9),)), LoggedShelf(example(), TREE)]


class Runs(unittest.TestCase):
    def refused(self, shelf, wanted, edits):
        """A run that raises an error, of which nothing is done."""
        ahead, passed = shelf_picture(shelf), picture(edits)
        self.assertEqual(outcome(shelf.run, edits), wanted, edits)
        self.assertEqual(shelf_picture(shelf), ahead)
        self.assertEqual(picture(edits), passed)


class TestRun(Runs):
    def test_tuples_and_lists(self):
        for edits in (EDITS, list(EDITS)):
            for shelf in made():
                passed = picture(edits)
                self.assertEqual(outcome(shelf.run, edits), returned(4))
                self.assertEqual(picture(edits), passed)
                self.assertEqual(kinds_told(shelf.kinds), (example().elders + ((1, 4),), (1, 5), (0,), True))
                self.assertEqual((shelf.choice, shelf.version), (ROWS, 4))

    def test_no_edits(self):
        for edits in ((), []):
            for shelf in made():
                shelf.choose(ROWS)
                self.assertEqual(outcome(shelf.run, edits), returned(1))
                self.assertEqual((shelf.version, shelf.news, shelf.choice), (1, ((), ()), ROWS))
            full = Shelf(example(), TREE)
            full.run([("choose", 0)] * 30)
            self.assertEqual(outcome(full.run, edits), returned(30))

    def test_one_edit(self):
        for edit in EDITS[:3] + (("choose", TREE),):
            one, other = Shelf(example(), TREE), Shelf(example(), TREE)
            self.assertEqual(one.run((edit,)), getattr(other, edit[0])(*edit[1:]))
            self.assertEqual(shelf_picture(one), shelf_picture(other))

    def test_an_edit_can_hang_on_those_ahead_of_it(self):
        shelf = Shelf(example(), TREE)
        edits = [("close", 1), ("reopen", 1), ("add", (), True, True), ("reopen", 5), ("choose", (5, 1, 2))]
        self.assertEqual(shelf.run(edits), 5)
        self.assertEqual(kinds_told(shelf.kinds), (example().elders + ((),), (4,), (0, 5), True))

    def test_behind_other_edits(self):
        shelf = Shelf(example(), TREE)
        shelf.close(0)
        self.assertEqual(shelf.run(EDITS), 5)
        self.assertEqual(shelf.close(2), 6)

    def test_undo_takes_one_edit_back(self):
        for shelf in made():
            shelf.run(EDITS)
            self.assertEqual((shelf.undo(), shelf.kinds.closed), (3, (1, 4, 5)))
            self.assertEqual((shelf.undo(), len(shelf.kinds)), (2, 5))
            self.assertEqual((shelf.undo(), shelf.choice), (1, TREE))
            self.assertEqual((shelf.undo(), shelf.kinds), (0, example()))
            self.assertEqual(outcome(shelf.undo), raised("NothingToUndo"))

    def test_a_list_that_is_changed_behind_the_call(self):
        for shelf in made():
            edits = [("close", 1), ("choose", ROWS)]
            shelf.run(edits)
            ahead = shelf_picture(shelf)
            edits[1] = ("choose", 0)
            del edits[0]
            self.assertEqual(shelf_picture(shelf), ahead)
            shelf.undo(), shelf.undo()
            self.assertEqual((shelf.kinds, shelf.choice), (example(), TREE))

    def test_by_name(self):
        self.assertEqual(Shelf(example(), TREE).run(edits=EDITS), 4)
        self.assertEqual(outcome(Shelf(example(), TREE).run, edits=0), raised("BadEdits", None))


class TestBadEdits(Runs):
    def test_no_tuple_or_list(self):
        for edits in (None, True, False, 0, 1, "", "close", {}, {"close": 1}, {0: ("close", 1)}, example()):
            for shelf in made():
                self.refused(shelf, raised("BadEdits", None), edits)
        with self.assertRaises(BadEdits) as caught:
            Shelf(example(), TREE).run(None)
        self.assertIsNone(caught.exception.index)

    def test_items_that_are_no_edits(self):
        for item in (
                None, 0, True, "", "close", (), ["close", 1], [], {}, ("close",), ("close", 1, 2), ("reopen",),
                ("reopen", 1, 2), ("choose",), ("choose", 0, 0), ("add", (), False), ("add", (), False, False, False),
                ("add",), ("undo",), ("run", ()), ("twin",), ("Close", 1), ("close ", 1), ("", 1), (None, 1), (0, 1),
                (["close"], 1), (("close",), 1), ({}, 1), (True, 1), (example(), 1), ("version", 1), ("kinds", 1),
                ("edit", 1), ("news",), ("settle", 1), ("__init__", 1), example()):
            for shelf in made():
                self.refused(shelf, raised("BadEdits", 0), (item,))
                self.refused(shelf, raised("BadEdits", 0), [item, ("close", 1)])
                self.refused(shelf, raised("BadEdits", 2), [("close", 1), ("close", 2), item])

    def test_the_first_item(self):
        self.refused(Shelf(example(), TREE), raised("BadEdits", 1), (("close", 1), 0, ("close", 2), ()))

    def test_ahead_of_rejected(self):
        self.refused(Shelf(example(), TREE), raised("BadEdits", 2), (("close", 9), ("close", 4), ("close",)))
        full = Shelf(example(), TREE)
        full.run([("choose", 0)] * 30)
        self.refused(full, raised("BadEdits", 1), (("close", 1), ("close",)))
        self.refused(full, raised("BadEdits", None), None)

    def test_any_value(self):
        for value in any_values():
            for edits in (value, (value,), [value], (("close", value),), (("choose", value),), (value, ("close", 1)),
                          (("close", 1), value), [("add", value, False, True)], [("add", (0,), value, True)],
                          (("close", 1), ("add", (0,), False, value)), (("reopen", value), ("close", 1)),
                          ((value, 1),), (("close", 1, value),), (("close", 0), ("choose", TREE), ("reopen", value))):
                shelf, model = Shelf(example(), TREE), Model("Shelf", example(), TREE)
                passed = picture(edits)
                self.assertEqual(outcome(shelf.run, edits), model_outcome(model.call, "run", edits), edits)
                self.assertEqual(shelf_picture(shelf), model.picture())
                self.assertEqual(picture(edits), passed)


class TestRejected(Runs):
    def test_each_error(self):
        for shelf in made():
            for error, edit in (
                    (BadKinds("elders"), ("add", (5,), False, False)), (BadKinds("elders"), ("add", [0], 1, 1)),
                    (BadKinds("closed"), ("add", (0,), 1, 1)), (BadKinds("hollow"), ("add", (0,), True, 0)),
                    (NoKind(5), ("close", 5)), (NoKind(True), ("reopen", True)), (Idle(), ("close", 4)),
                    (Idle(), ("reopen", 0)), (BadChoice(), ("choose", 10)), (BadChoice(), ("choose", (5, 1, 2)))):
                self.refused(shelf, raised("Rejected", 0, error), (edit,))
                self.refused(shelf, raised("Rejected", 2, error), [("choose", 1), ("choose", 2), edit, ("close", 1)])

    def test_the_first_edit_that_raises(self):
        shelf = Shelf(example(), TREE)
        self.refused(shelf, raised("Rejected", 1, Idle()), (("close", 1), ("close", 1), ("close", 9)))
        self.refused(shelf, raised("Rejected", 1, NoKind(9)), (("close", 1), ("close", 9), ("close", 1)))

    def test_done_behind_those_ahead_of_it(self):
        shelf = Shelf(example(), TREE)
        add = ("add", (), False, False)
        self.refused(shelf, raised("Rejected", 1, BadKinds("full")), (add, add))
        self.refused(shelf, raised("Rejected", 1, Idle()), (("reopen", 4), ("reopen", 4)))
        self.refused(Shelf(SIX, 0), raised("Rejected", 0, BadKinds("full")), (add,))

    def test_the_error_itself(self):
        with self.assertRaises(Rejected) as caught:
            Shelf(example(), TREE).run((("close", 1), ("close", "x")))
        self.assertEqual(caught.exception.index, 1)
        self.assertIs(type(caught.exception.error), NoKind)
        self.assertEqual(caught.exception.error.kind, "x")

    def test_the_thirty_first(self):
        for shelf in made():
            self.refused(shelf, raised("Rejected", 30, Full()), [("choose", 0)] * 31)
            self.assertEqual(shelf.run([("choose", 0)] * 30), 30)
            self.refused(shelf, raised("Rejected", 0, Full()), [("choose", 0)])
            self.refused(shelf, raised("Rejected", 0, Full()), [("close", "x")])
            shelf.undo(), shelf.undo()
            self.refused(shelf, raised("Rejected", 2, Full()), [("choose", 0), ("choose", 1), ("choose", 10)])
            self.refused(shelf, raised("Rejected", 1, BadChoice()), [("choose", 0), ("choose", 10), ("choose", 2)])
            self.assertEqual(shelf.run([("choose", 0), ("close", 1)]), 30)

    def test_many_edits(self):
        self.refused(Shelf(example(), TREE), raised("Rejected", 30, Full()), [("choose", 0)] * 900)

    def test_against(self):
        shelf = WishShelf(example().closing((1,)), TREE, (("clear", ((1, 5), (2, 6), (3, 7))),))
        self.refused(shelf, raised("Rejected", 1, Against(0, (0, 1, 2))), (("close", 0), ("reopen", 1), ("close", 2)))
        # With 2 closed first, nothing is against it.
        self.assertEqual(shelf.run((("close", 2), ("reopen", 1))), 2)


class Driver:
    """Draws calls for a shelf and its model, right ones mostly."""

    def __init__(self, draw):
        self.draw = draw

    def edit(self, shelf):
        name = self.draw.one(("add", "close", "reopen", "choose", "close", "reopen"))
        if self.draw.below(8) == 0:
            return (name,) + tuple(self.draw.one(STRANGE) for step in range(3 if name == "add" else 1))
        kinds = shelf.kinds
        if name == "add":
            elders = self.draw.some(range(len(kinds)), len(kinds) if kinds.several else 1)
            return (name, elders, self.draw.below(2) == 0, self.draw.below(2) == 0)
        if name == "choose":
            return (name, self.draw.choice(kinds))
        usable = kinds.opened() if name == "close" else kinds.closed
        return (name, self.draw.one(usable) if usable else 0)

    def call(self, shelf):
        """A name and arguments."""
        which = self.draw.below(10)
        if which < 2:
            return ("undo",)
        if which == 2:
            edits = [self.edit(shelf) for step in range(self.draw.below(5))]
            return ("run", edits if self.draw.below(2) else tuple(edits))
        return self.edit(shelf)


class TestLongRows(unittest.TestCase):
    def make(self, name, kinds, draw):
        choice = draw.choice(kinds)
        if name == "WishShelf":
            wishes = [draw.wish(kinds) for step in range(8)]
            wishes = tuple(wish for wish in wishes if tried_against(kinds, wish) is None)[:3]
            return WishShelf(kinds, choice, wishes), Model(name, kinds, choice, wishes)
        shelf = {"Shelf": Shelf, "LoggedShelf": LoggedShelf}[name](kinds, choice)
        return shelf, Model(name, kinds, choice)

    def drive(self, name, seed, times, calls):
        """How often each outcome came about in drawn calls of a shelf and of its model."""
        counts = {}
        for kinds, draw in drawn(seed, times):
            shelf, model = self.make(name, kinds, draw)
            driver = Driver(draw)
            for step in range(calls):
                method, *arguments = driver.call(shelf)
                wanted = model_outcome(model.call, method, *arguments)
                self.assertEqual(outcome(getattr(shelf, method), *arguments), wanted, (method, arguments))
                self.assertEqual(shelf_picture(shelf), model.picture())
                if draw.below(12) == 0:
                    left = shelf
                    shelf, model = shelf.twin(), model.twin()
                    self.assertEqual(shelf_picture(left), shelf_picture(shelf))
                kind = wanted[1][0] if wanted[0] == "raised" else "told"
                counts[kind] = counts.get(kind, 0) + 1
        return counts

    def test_shelves(self):
        counts = self.drive("Shelf", 80, 40, 25)
        for name in ("told", "BadKinds", "NoKind", "Idle", "BadChoice", "NothingToUndo", "Rejected"):
            self.assertTrue(counts[name] > 2, counts)

    def test_logged_shelves(self):
        self.assertTrue(self.drive("LoggedShelf", 81, 20, 25)["told"] > 100)

    def test_wish_shelves(self):
        counts = self.drive("WishShelf", 82, 60, 25)
        self.assertTrue(counts["told"] > 100 and counts["Against"] > 20, counts)

    def test_up_to_thirty_edits(self):
        for name in ("Shelf", "LoggedShelf", "WishShelf"):
            draw = Draw(83)
            shelf, model = self.make(name, example(), draw)
            for step in range(60):
                value = draw.below(11) if step % 7 else TREE
                wanted = model_outcome(model.call, "choose", value)
                self.assertEqual(outcome(shelf.choose, value), wanted)
                self.assertEqual(shelf_picture(shelf), model.picture())
            self.assertEqual(shelf.version, 30)


class TestWhatAShelfTells(unittest.TestCase):
    def edited(self, seed, times):
        for kinds, draw in drawn(seed, times):
            choice = draw.choice(kinds)
            shelf, edits = Shelf(kinds, choice), []
            driver = Driver(draw)
            for step in range(12):
                edit = driver.edit(shelf)
                if outcome(getattr(shelf, edit[0]), *edit[1:])[0] == "told":
                    edits.append(edit)
                if draw.below(5) == 0 and edits:
                    shelf.undo()
                    edits.pop()
            yield Shelf(kinds, choice), shelf, edits

    def test_is_what_a_new_shelf_tells(self):
        for unused, shelf, edits in self.edited(84, 40):
            new = Shelf(shelf.kinds, shelf.choice)
            self.assertEqual((new == shelf, shelf == new), (True, True))
            for lot in ((), (0,), (0, 1), tuple(range(len(shelf.kinds)))):
                self.assertEqual(new(lot), shelf(lot))
            for edit in (("close", 0), ("reopen", 0), ("choose", 3), ("add", (0,), False, False), ("choose", 10)):
                if shelf.version < 30:
                    one, other = new.twin(), shelf.twin()
                    told = outcome(getattr(one, edit[0]), *edit[1:])[0]
                    self.assertEqual(outcome(getattr(other, edit[0]), *edit[1:])[0], told)
                    self.assertEqual(one, other)
                    if told == "told":
                        self.assertEqual(one.news, other.news)

    def test_one_run_of_the_edits_in_effect_leads_to_the_same(self):
        longest = 0
        for new, shelf, edits in self.edited(85, 60):
            self.assertEqual(new.run(edits), len(edits))
            self.assertEqual((new, new.version), (shelf, shelf.version))
            self.assertEqual(kinds_told(new.kinds), kinds_told(shelf.kinds))
            longest = max(longest, len(edits))
        self.assertTrue(longest > 6, longest)


if __name__ == "__main__":
    unittest.main()
