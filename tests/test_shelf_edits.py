"""Point 19: shelves and their editing methods, undo, versions and news."""

import unittest

from kindstocome.choices import answers
from kindstocome.errors import BadChoice, BadKinds, Full, Idle, NoKind, NothingToUndo
from kindstocome.hierarchies import Kinds
from kindstocome.shelves import LoggedShelf, Shelf, WishShelf
from models import Model, model_outcome
from oracles import right_choice
from samples import (
    BIG, ROWS, TREE, any_values, example, kinds_told, outcome, picture, raised, shelf_picture, variants)

ONE = Kinds(((),), (), (), False)
SIX = Kinds(((), (0,), (0,), (1, 2), (0,), ()), (4,), (0,), True)
NO_LOTS = Kinds(((), (0,)), (0, 1), (0, 1), True)


def made():
    """A shelf of each class, with what the document's examples use."""
    return [Shelf(example(), TREE), WishShelf(example(), TREE, (("never", TREE, 9),)), LoggedShelf(example(), TREE)]


def full(made_shelf):
    """This shelf with thirty edits in effect."""
    while made_shelf.version < 30:
        made_shelf.choose(made_shelf.version % 10)
    return made_shelf


class Shelves(unittest.TestCase):
    """Tests whose calls are held against what a shelf told ahead of them."""

    def refused(self, shelf, wanted, name, *arguments, **named):
        """A call that raises an error, which leaves the shelf and what is passed as it is."""
        ahead, passed = shelf_picture(shelf), picture(arguments)
        self.assertEqual(outcome(getattr(shelf, name), *arguments, **named), wanted, (name, arguments))
        self.assertEqual(shelf_picture(shelf), ahead)
        self.assertEqual(picture(arguments), passed)

    def done(self, shelf, name, *arguments, **named):
        """A call that raises nothing: the version that it returns is the new one, and what is passed stays."""
        passed = picture(arguments)
        version = getattr(shelf, name)(*arguments, **named)
        self.assertIs(type(version), int)
        self.assertEqual(shelf.version, version)
        self.assertEqual(picture(arguments), passed)
        return version


class TestMade(unittest.TestCase):
    def test_with_trees_and_rows(self):
        for choice in (0, 9, TREE, ROWS, (), (0, 1, 2), (((), 3),) * 6):
            shelf = Shelf(example(), choice)
            self.assertEqual(shelf.kinds, example())
            self.assertEqual(picture(shelf.choice), picture(choice))
            self.assertEqual(picture((shelf.version, shelf.news)), picture((0, ((), ()))))

    def test_bad_choice(self):
        deep = 5
        for step in range(13):
            deep = (0, deep, 1)
        for choice in (10, -1, True, False, None, "0", BIG, (5, 1, 2), (0, 1), (0, 1, 10), deep, [0, 1, 2], list(ROWS),
                       (True, 1, 2), (0, [1, 2, 3], 4), ((((5, True),), 1),), ((((0, 1),), 1),), (((), 1),) * 7, [], {},
                       example(), Shelf(example(), 0)):
            self.assertEqual(outcome(Shelf, example(), choice), raised("BadChoice"))
            self.assertEqual(outcome(LoggedShelf, example(), choice), raised("BadChoice"))
            self.assertEqual(outcome(WishShelf, example(), choice, ()), raised("BadChoice"))

    def test_a_choice_of_other_kinds(self):
        for choice in (TREE, ROWS):
            self.assertEqual(outcome(Shelf, ONE, choice), raised("BadChoice"))

    def test_any_value(self):
        for kinds in (example(), ONE, NO_LOTS):
            for value in any_values() + variants(TREE) + variants(ROWS):
                passed = picture(value)
                told = outcome(Shelf, kinds, value)
                wanted = model_outcome(lambda: Model("Shelf", kinds, value).picture())
                self.assertEqual(told[0], wanted[0], value)
                self.assertEqual(told[0] == "told", right_choice(kinds, value))
                self.assertEqual(picture(value), passed)

    def test_by_name(self):
        self.assertEqual(Shelf(choice=TREE, kinds=example()).choice, TREE)
        self.assertEqual(LoggedShelf(choice=ROWS, kinds=example()).choice, ROWS)
        self.assertEqual(WishShelf(wishes=(), choice=ROWS, kinds=example()).choice, ROWS)

    def test_properties_can_only_be_read(self):
        for shelf in made():
            ahead = shelf_picture(shelf)
            for name in ("kinds", "choice", "version", "news"):
                with self.assertRaises(AttributeError):
                    setattr(shelf, name, getattr(shelf, name))
            self.assertEqual(shelf_picture(shelf), ahead)


class TestAdd(Shelves):
    def test_one_kind_more(self):
        for closed in (True, False):
            for hollow in (True, False):
                for elders in ((), (0,), (4,), (1, 4), (0, 1, 2, 3, 4)):
                    for shelf in made():
                        self.assertEqual(self.done(shelf, "add", elders, closed, hollow), 1)
                        self.assertEqual(picture(kinds_told(shelf.kinds)), picture((
                            example().elders + (elders,), (4, 5) if closed else (4,), (0, 5) if hollow else (0,),
                            True)))
                        self.assertEqual(shelf.choice, TREE)

    def test_full_kinds(self):
        for arguments in (((0,), False, False), ((9,), 1, 1), (None, None, None), ([], True, False)):
            self.refused(Shelf(SIX, 0), raised("BadKinds", "full"), "add", *arguments)
        shelf = Shelf(example(), TREE)
        shelf.add((), False, False)
        self.refused(shelf, raised("BadKinds", "full"), "add", (), False, False)

    def test_elders(self):
        for elders in ((5,), (-1,), (0, 0), (1, 0), (0, 5), (True,), (False,), (0, True), (None,), ("0",), ((0,),), [],
                       [0], [0, 1], None, 0, True, "", "0", {}, {0: 1}, (BIG,), example(), (example(),)):
            for closed, hollow in ((False, False), (1, 0), (None, None)):
                self.refused(Shelf(example(), 0), raised("BadKinds", "elders"), "add", elders, closed, hollow)

    def test_elders_where_one_is_allowed(self):
        shelf = Shelf(Kinds(((), ()), (), (), False), 0)
        self.refused(shelf, raised("BadKinds", "elders"), "add", (0, 1), False, False)
        self.assertEqual(self.done(shelf, "add", (1,), False, False), 1)
        self.assertEqual(self.done(shelf, "add", (), False, False), 2)
        self.refused(shelf, raised("BadKinds", "elders"), "add", (0, 1, 2), False, False)
        self.assertEqual(kinds_told(shelf.kinds), (((), (), (1,), ()), (), (), False))

    def test_closed_and_hollow(self):
        for value in (0, 1, None, "True", "", (), (True,), [], [True], {}, 2, -1, example()):
            self.refused(Shelf(example(), 0), raised("BadKinds", "closed"), "add", (0,), value, True)
            self.refused(Shelf(example(), 0), raised("BadKinds", "closed"), "add", (0,), value, value)
            self.refused(Shelf(example(), 0), raised("BadKinds", "hollow"), "add", (0,), False, value)

    def test_any_value_in_each_place(self):
        for kinds in (example(), ONE, SIX):
            for value in any_values():
                for arguments in ((value, True, False), ((0,), value, False), ((0,), True, value), (value,) * 3,
                                  ((value,), False, False), ((0, value), False, False)):
                    self.same(kinds, "add", *arguments)

    def same(self, kinds, name, *arguments):
        shelf, model = Shelf(kinds, 0), Model("Shelf", kinds, 0)
        passed = picture(arguments)
        wanted = model_outcome(model.call, name, *arguments)
        self.assertEqual(outcome(getattr(shelf, name), *arguments), wanted, arguments)
        self.assertEqual(shelf_picture(shelf), model.picture())
        self.assertEqual(picture(arguments), passed)

    def test_any_value_for_the_other_methods(self):
        for kinds in (example(), ONE):
            for value in any_values() + variants(TREE) + variants(ROWS):
                for name in ("close", "reopen", "choose"):
                    self.same(kinds, name, value)

    def test_by_name(self):
        shelf = Shelf(example(), TREE)
        self.assertEqual(self.done(shelf, "add", hollow=True, closed=False, elders=(1, 2)), 1)
        self.assertEqual((shelf.kinds.elders[5], shelf.kinds.closed, shelf.kinds.hollow), ((1, 2), (4,), (0, 5)))
        self.refused(shelf.twin(), raised("BadKinds", "full"), "add", hollow=1, closed=1, elders=1)
        shelf.undo()
        self.refused(shelf, raised("BadKinds", "closed"), "add", hollow=1, closed=1, elders=(1,))


class TestCloseAndReopen(Shelves):
    def test_close(self):
        for kind in range(4):
            for shelf in made():
                self.assertEqual(self.done(shelf, "close", kind), 1)
                self.assertEqual(kinds_told(shelf.kinds), kinds_told(example().closing((kind,))))

    def test_reopen(self):
        for shelf in made():
            self.assertEqual(self.done(shelf, "reopen", 4), 1)
            self.assertEqual(kinds_told(shelf.kinds), kinds_told(example().opening((4,))))

    def test_no_kind(self):
        for kind in (5, 6, -1, BIG, -BIG, None, True, False, "0", "", (), (0,), [], [0], {}, example()):
            for name in ("close", "reopen"):
                for shelf in made():
                    self.refused(shelf, raised("NoKind", kind), name, kind)

    def test_no_kind_keeps_what_was_passed(self):
        passed = [1, [2]]
        with self.assertRaises(NoKind) as caught:
            Shelf(example(), 0).close(passed)
        self.assertIs(caught.exception.kind, passed)

    def test_idle(self):
        for shelf in made():
            self.refused(shelf, raised("Idle"), "close", 4)
            for kind in range(4):
                self.refused(shelf, raised("Idle"), "reopen", kind)
            shelf.close(0)
            self.refused(shelf, raised("Idle"), "close", 0)
            shelf.reopen(4)
            self.refused(shelf, raised("Idle"), "reopen", 4)

    def test_closing_and_reopening_leads_back(self):
        for kinds in (example(), SIX, Kinds(((), ()), (0,), (), False)):
            shelf = Shelf(kinds, 0)
            for kind in range(len(kinds)):
                names = ("reopen", "close") if kind in kinds.closed else ("close", "reopen")
                for name in names:
                    self.done(shelf, name, kind)
                self.assertEqual(shelf.kinds, kinds)
            self.assertEqual(shelf.version, 2 * len(kinds))

    def test_a_kind_that_was_added(self):
        shelf = Shelf(example(), TREE)
        self.refused(shelf, raised("NoKind", 5), "close", 5)
        shelf.add((), True, False)
        self.assertEqual(self.done(shelf, "reopen", 5), 2)
        self.assertEqual(self.done(shelf, "close", 5), 3)
        shelf.undo(), shelf.undo(), shelf.undo()
        self.refused(shelf, raised("NoKind", 5), "close", 5)

    def test_by_name(self):
        shelf = Shelf(example(), TREE)
        self.assertEqual((shelf.close(kind=1), shelf.reopen(kind=4)), (1, 2))
        self.assertEqual(shelf.kinds.closed, (1,))


class TestChoose(Shelves):
    def test_trees_and_rows(self):
        for choice in (0, 9, TREE, ROWS, (), (0, 1, 2), (((), 3),) * 6):
            for shelf in made():
                self.assertEqual(self.done(shelf, "choose", choice), 1)
                self.assertEqual(picture(shelf.choice), picture(choice))
                self.assertEqual(shelf.kinds, example())

    def test_the_same_choice_is_an_edit_too(self):
        shelf = Shelf(example(), TREE)
        self.assertEqual((self.done(shelf, "choose", TREE), self.done(shelf, "choose", TREE)), (1, 2))

    def test_bad_choice(self):
        for value in (10, -1, True, None, "0", (5, 1, 2), (0, 1), [0, 1, 2], list(ROWS), ((((5, True),), 1),), {}):
            for shelf in made():
                self.refused(shelf, raised("BadChoice"), "choose", value)

    def test_with_a_kind_that_was_added(self):
        shelf = Shelf(example(), TREE)
        self.refused(shelf, raised("BadChoice"), "choose", (5, 1, 2))
        shelf.add((0,), False, False)
        self.assertEqual(self.done(shelf, "choose", (5, 1, 2)), 2)
        self.assertEqual((shelf.undo(), shelf.choice), (1, TREE))

    def test_by_name(self):
        shelf = Shelf(example(), TREE)
        self.assertEqual((shelf.choose(value=ROWS), shelf.choice), (1, ROWS))


class TestUndo(Shelves):
    def test_to_the_beginning(self):
        for shelf in made():
            pictures = []
            for name, arguments in (("add", ((1,), True, True)), ("close", (1,)), ("choose", ((5, 1, 2),)),
                                    ("reopen", (5,)), ("choose", (ROWS,)), ("close", (0,))):
                pictures.append((kinds_told(shelf.kinds), shelf.choice))
                self.assertEqual(self.done(shelf, name, *arguments), len(pictures))
            while pictures:
                self.assertEqual(self.done(shelf, "undo"), len(pictures) - 1)
                self.assertEqual((kinds_told(shelf.kinds), shelf.choice), pictures.pop())
            self.refused(shelf, raised("NothingToUndo"), "undo")

    def test_nothing_to_undo_at_nought(self):
        for shelf in made():
            self.refused(shelf, raised("NothingToUndo"), "undo")
            with self.assertRaises(NothingToUndo):
                shelf.undo()

    def test_edits_behind_an_undo(self):
        shelf = Shelf(example(), TREE)
        shelf.close(1), shelf.close(2), shelf.undo()
        self.assertEqual(self.done(shelf, "close", 3), 2)
        self.assertEqual(shelf.kinds.closed, (1, 3, 4))
        shelf.undo()
        self.assertEqual(shelf.kinds.closed, (1, 4))
        shelf.undo()
        self.assertEqual(shelf.kinds.closed, (4,))
        self.assertEqual((self.done(shelf, "choose", 5), shelf.choice), (1, 5))

    def test_an_edit_that_is_refused_is_not_undone(self):
        shelf = Shelf(example(), TREE)
        shelf.close(1)
        self.refused(shelf, raised("Idle"), "close", 1)
        self.assertEqual((shelf.undo(), shelf.kinds), (0, example()))


class TestFull(Shelves):
    def test_every_editing_method_whatever_its_arguments(self):
        for shelf in made():
            full(shelf)
            self.assertEqual(shelf.version, 30)
            for arguments in (((0,), False, False), (None, 1, 2), ([], [], [])):
                self.refused(shelf, raised("Full"), "add", *arguments)
            for value in (0, 1, 4, 5, None, True, TREE, ROWS, [], {}, "0", example()):
                for name in ("close", "reopen", "choose"):
                    self.refused(shelf, raised("Full"), name, value)

    def test_ahead_of_full_kinds(self):
        self.refused(full(Shelf(SIX, 0)), raised("Full"), "add", (), False, False)

    def test_just_thirty(self):
        shelf = Shelf(example(), TREE)
        for version in range(1, 31):
            self.assertEqual(self.done(shelf, "choose", version % 10), version)
        self.refused(shelf, raised("Full"), "choose", 0)

    def test_room_for_just_one_behind_an_undo(self):
        for shelf in made():
            full(shelf)
            self.assertEqual(self.done(shelf, "undo"), 29)
            self.assertEqual(self.done(shelf, "close", 1), 30)
            self.refused(shelf, raised("Full"), "close", 2)
            self.assertEqual((self.done(shelf, "undo"), self.done(shelf, "undo")), (29, 28))
            self.assertEqual((self.done(shelf, "close", 1), self.done(shelf, "close", 2)), (29, 30))
            self.refused(shelf, raised("Full"), "choose", 0)

    def test_all_thirty_are_undone(self):
        shelf = full(Shelf(example(), TREE))
        for version in range(29, -1, -1):
            self.assertEqual(self.done(shelf, "undo"), version)
        self.assertEqual((shelf.kinds, shelf.choice), (example(), TREE))


class TestNews(Shelves):
    def news(self, shelf, name, *arguments):
        """The news of a call, held against the answers ahead of it and behind it."""
        old = set(answers(shelf.kinds, shelf.choice))
        self.done(shelf, name, *arguments)
        new = set(answers(shelf.kinds, shelf.choice))
        wanted = (tuple(sorted(old - new)), tuple(sorted(new - old)))
        self.assertEqual(picture(shelf.news), picture(wanted))
        return wanted

    def test_at_first(self):
        for shelf in made():
            self.assertEqual(shelf.news, ((), ()))

    def test_behind_edits_and_undos(self):
        for shelf in made():
            self.assertEqual(self.news(shelf, "choose", ROWS), ((7,), ()))
            self.assertEqual(self.news(shelf, "choose", (1, 8, 3)), ((0, 5, 6), (3, 8)))
            self.assertEqual(self.news(shelf, "close", 1), ((), ()))
            self.assertEqual(self.news(shelf, "undo"), ((), ()))
            self.assertEqual(self.news(shelf, "undo"), ((3, 8), (0, 5, 6)))
            self.assertEqual(self.news(shelf, "undo"), ((), (7,)))

    def test_by_kinds(self):
        closed = Kinds(((), (0,)), (0,), (0,), True)
        shelf = Shelf(closed, (1, 5, 6))
        self.assertEqual(self.news(shelf, "reopen", 0), ((), (6,)))
        self.assertEqual(self.news(shelf, "close", 0), ((6,), ()))
        self.assertEqual(self.news(shelf, "add", (), False, False), ((), (6,)))
        self.assertEqual(self.news(shelf, "undo"), ((6,), ()))

    def test_kinds_without_lots(self):
        shelf = Shelf(NO_LOTS, 5)
        self.assertEqual(self.news(shelf, "reopen", 1), ((), (5,)))
        self.assertEqual(self.news(shelf, "undo"), ((5,), ()))
        self.assertEqual(self.news(shelf, "choose", 6), ((), ()))

    def test_behind_calls_that_raise_something(self):
        for shelf in made():
            shelf.choose(ROWS)
            self.refused(shelf, raised("BadChoice"), "choose", 10)
            self.refused(shelf, raised("Idle"), "close", 4)
            self.refused(shelf, raised("NoKind", 9), "close", 9)
            self.refused(shelf, raised("BadKinds", "elders"), "add", 0, 0, 0)
            self.refused(shelf, raised("BadEdits", None), "run", 0)
            self.refused(shelf, raised("Rejected", 1, Idle()), "run", (("choose", 0), ("close", 4)))
            self.assertEqual(shelf.news, ((7,), ()))
            shelf.undo()
            self.refused(shelf, raised("NothingToUndo"), "undo")
            self.assertEqual(shelf.news, ((), (7,)))

    def test_behind_full(self):
        shelf = full(Shelf(example(), TREE))
        self.assertEqual(shelf.news, ((8,), (9,)))
        self.refused(shelf, raised("Full"), "choose", 0)
        self.assertEqual(shelf.news, ((8,), (9,)))

    def test_behind_runs(self):
        for shelf in made():
            self.assertEqual(self.news(shelf, "run", (("choose", 1), ("choose", ROWS))), ((7,), ()))
            self.assertEqual(self.news(shelf, "run", []), ((), ()))
            self.assertEqual(self.news(shelf, "run", [("choose", 1), ("choose", 2), ("close", 0)]), ((0, 5, 6), (2,)))
            # An undo takes one edit of a run back, and news tells of this one alone.
            self.assertEqual(self.news(shelf, "undo"), ((), ()))
            self.assertEqual(self.news(shelf, "undo"), ((2,), (1,)))
            self.assertEqual(self.news(shelf, "run", ()), ((), ()))


class TestErrorsAreRaised(unittest.TestCase):
    """outcome makes pictures of errors; here they are caught by their classes."""

    def test_their_classes(self):
        shelf = Shelf(example(), TREE)
        for error, name, arguments in ((BadKinds, "add", (0, 0, 0)), (NoKind, "close", (9,)), (Idle, "close", (4,)),
                                       (NoKind, "reopen", (9,)), (Idle, "reopen", (0,)), (BadChoice, "choose", (10,))):
            with self.assertRaises(error):
                getattr(shelf, name)(*arguments)
        with self.assertRaises(Full):
            full(shelf).close(0)


if __name__ == "__main__":
    unittest.main()
