"""Points 19 and 20: twins, ==, str, shelves called with a lot, WishShelf and LoggedShelf."""

import unittest

from drawing import drawn
from kindstocome.choices import answer
from kindstocome.errors import Against, BadWishes
from kindstocome.hierarchies import Kinds
from kindstocome.shelves import LoggedShelf, Shelf, WishShelf
from models import Model, model_outcome
from samples import (
    ROWS, TREE, any_values, example, outcome, picture, raised, returned, shelf_picture, subsets, variants)

ONE = Kinds(((),), (), (), False)
CLEAR = ("clear", ((1, 5), (2, 6), (3, 7)))
CLOSED = example().closing((1,))
NEVER = ("never", ((((1, True), (2, True), (3, False)), 5),), 5)


def made():
    """A shelf of each class."""
    return [Shelf(example(), TREE), WishShelf(example(), TREE, (("never", TREE, 9),)), LoggedShelf(example(), TREE)]


def pairs():
    """Two new shelves of each two classes."""
    return [(made()[one], made()[other]) for one in range(3) for other in range(3)]


def edited(shelf):
    """This shelf with four edits in effect, and one taken back."""
    shelf.close(1), shelf.choose(ROWS), shelf.run([("add", (1, 4), False, True), ("choose", (5, 8, 9)), ("close", 2)])
    shelf.undo()
    return shelf


class TestTwin(unittest.TestCase):
    def test_the_same_of_each_class(self):
        for shelf in made() + [edited(shelf) for shelf in made()]:
            ahead = shelf_picture(shelf)
            twin = shelf.twin()
            self.assertIsNot(twin, shelf)
            self.assertIs(type(twin), type(shelf))
            self.assertEqual(shelf_picture(twin), ahead)
            self.assertEqual(shelf_picture(shelf), ahead)
            self.assertEqual((twin == shelf, twin != shelf), (True, False))

    def test_each_goes_on_by_itself(self):
        for shelf in [edited(shelf) for shelf in made()]:
            ahead = shelf_picture(shelf)
            twin = shelf.twin()
            twin.close(0), twin.choose(3), twin.run([("close", 3)]), twin.undo()
            self.assertEqual(shelf_picture(shelf), ahead)
            changed = shelf_picture(twin)
            shelf.choose(7), shelf.undo(), shelf.undo(), shelf.undo()
            self.assertEqual(shelf_picture(twin), changed)

    def test_undo_of_a_twin(self):
        for shelf in [edited(shelf) for shelf in made()]:
            twin = shelf.twin()
            told = []
            for other in (twin, shelf):
                told.append([])
                while other.version > 0:
                    version = other.undo()
                    told[-1].append((version, shelf_picture(other)))
            self.assertEqual(told[0], told[1])
            self.assertEqual((twin.kinds, twin.choice), (example(), TREE))
            self.assertEqual(outcome(twin.undo), raised("NothingToUndo"))

    def test_a_twin_of_a_twin(self):
        for shelf in [edited(shelf) for shelf in made()]:
            self.assertEqual(shelf_picture(shelf.twin().twin()), shelf_picture(shelf))

    def test_a_twin_of_a_full_shelf(self):
        for shelf in made():
            shelf.run([("choose", 0)] * 30)
            twin = shelf.twin()
            self.assertEqual(outcome(twin.close, 0), raised("Full"))
            self.assertEqual((twin.undo(), twin.close(0), shelf.version), (29, 30, 30))


class TestEqual(unittest.TestCase):
    def equal(self, one, other, wanted):
        self.assertIs(one == other, wanted)
        self.assertIs(other == one, wanted)
        self.assertIs(one != other, not wanted)
        self.assertIs(other != one, not wanted)

    def test_whichever_class(self):
        for one, other in pairs():
            self.equal(one, other, True)

    def test_version_news_wishes_and_log_do_not_count(self):
        for one, other in pairs():
            other.close(1), other.reopen(1), other.choose(0), other.choose(TREE)
            self.equal(one, other, True)
            other.undo()
            self.equal(one, other, False)

    def test_other_kinds_or_another_choice(self):
        for one, other in pairs():
            other.close(0)
            self.equal(one, other, False)
        for choice in (0, 7, ROWS, (), (1, (2, 7, 5), (2, 6, 1))):
            self.equal(Shelf(example(), TREE), Shelf(example(), choice), False)
        self.equal(Shelf(Kinds(((),), (), (), True), 0), Shelf(ONE, 0), False)
        # Choices that are alike are not equal for this.
        self.equal(Shelf(example(), 0), Shelf(example(), ()), False)

    def test_values_of_other_kinds(self):
        for shelf in made():
            for value in any_values():
                if not isinstance(value, Shelf):
                    self.equal(shelf, value, False)
            for value in ((example(), TREE), TREE, example(), str(shelf), [shelf], (shelf,)):
                self.equal(shelf, value, False)


class TestStrAndCalls(unittest.TestCase):
    def test_str(self):
        for shelf in made():
            self.assertEqual(str(shelf), "shelf at version 0")
            edited(shelf)
            self.assertEqual(str(shelf), "shelf at version 4")
            shelf.run([("choose", 0)] * 26)
            self.assertEqual(str(shelf), "shelf at version 30")
            shelf.undo()
            self.assertEqual(str(shelf), "shelf at version 29")

    def test_called_with_a_lot(self):
        for shelf in made():
            for lot, wanted in (((0,), 0), ((0, 1), 5), ((0, 2), 6), ((0, 1, 2), 7), ((), 0), ((1,), 5), ((1, 2, 4),
                    7)):
                self.assertEqual(picture(shelf(lot)), picture(wanted))
                self.assertEqual(shelf(lot=lot), wanted)
            shelf.choose(ROWS)
            self.assertEqual([shelf(lot) for lot in ((0,), (0, 1), (0, 2), (0, 1, 2))], [0, 5, 6, 5])
            shelf.undo()
            self.assertEqual(shelf((0, 1, 2)), 7)

    def test_drawn_ones(self):
        for kinds, draw in drawn(90, 40):
            shelf = Shelf(kinds, draw.choice(kinds))
            for lot in subsets(range(len(kinds))):
                self.assertEqual(shelf(lot), answer(shelf.choice, lot))


class TestWishShelfMade(unittest.TestCase):
    def refused(self, wanted, *arguments):
        passed = picture(arguments)
        self.assertEqual(outcome(WishShelf, *arguments), wanted, arguments)
        self.assertEqual(picture(arguments), passed)

    def test_none_to_three_wishes(self):
        for many in range(4):
            wishes = (("never", TREE, 8), ("full", ((0, 1),)), ("alike", TREE, TREE))[:many]
            shelf = WishShelf(example(), TREE, wishes)
            self.assertIsInstance(shelf, Shelf)
            self.assertEqual(picture(shelf.wishes), picture(wishes))
            self.assertEqual((shelf.kinds, shelf.choice, shelf.version, shelf.news), (example(), TREE, 0, ((), ())))

    def test_bad_choice_comes_first(self):
        for wishes in ((), None, [], (("never", TREE, 7),), (0,)):
            self.refused(raised("BadChoice"), example(), 10, wishes)

    def test_bad_wishes(self):
        kept = ("never", TREE, 8)
        for wishes in (None, 0, True, "", "never", [], [kept], {}, kept, (kept,) * 4, (kept, 0), (kept, list(kept)),
                       (("never", TREE, 10),), (("never", (5, 1, 2), 1),), (("alike", TREE),), (("clear", [(1, 5)]),),
                       (("open", ROWS),), ((),), (kept, ()), (kept, kept, None), example(), (example(),)):
            self.refused(raised("BadWishes"), example(), TREE, wishes)
        with self.assertRaises(BadWishes):
            WishShelf(example(), TREE, None)

    def test_bad_wishes_ahead_of_against(self):
        against = ("never", TREE, 7)
        self.refused(raised("BadWishes"), example(), TREE, (against, 0))
        self.refused(raised("BadWishes"), example(), TREE, (against,) * 4)

    def test_against(self):
        kept = ("never", TREE, 8)
        self.refused(raised("Against", 0, (0, 1, 2, 3)), example(), TREE, (("never", TREE, 7),))
        self.refused(raised("Against", 0, (0, 1, 2)), example(), TREE, (CLEAR,))
        self.refused(raised("Against", 2, (0, 4)), example(), TREE, (kept, kept, ("full", ((1, 5), (2, 6)))))
        self.refused(raised("Against", 1, (0, 1)), example(), TREE, (kept, ("full", ()), ("never", TREE, 7)))
        with self.assertRaises(Against) as caught:
            WishShelf(example(), TREE, (kept, CLEAR))
        self.assertEqual((caught.exception.index, caught.exception.lot), (1, (0, 1, 2)))

    def test_wishes_of_other_kinds(self):
        self.refused(raised("BadWishes"), ONE, 0, (CLEAR,))
        self.assertEqual(outcome(lambda: WishShelf(ONE, 0, (("clear", ((0, 1),)),)).version), returned(0))

    def test_any_value(self):
        for kinds in (example(), ONE):
            for value in any_values() + variants((CLEAR,)) + variants((("never", (0, 1, 2), 2),)):
                wanted = model_outcome(Model, "WishShelf", kinds, 0, value)
                if wanted[0] == "raised":
                    self.refused(wanted, kinds, 0, value)
                else:
                    model = Model("WishShelf", kinds, 0, value)
                    self.assertEqual(shelf_picture(WishShelf(kinds, 0, value)), model.picture())

    def test_wishes_can_only_be_read(self):
        shelf = WishShelf(CLOSED, TREE, (CLEAR,))
        with self.assertRaises(AttributeError):
            shelf.wishes = ()
        self.assertEqual(shelf.wishes, (CLEAR,))


class TestWishShelfEdits(unittest.TestCase):
    def refused(self, shelf, wanted, name, *arguments):
        ahead = shelf_picture(shelf)
        self.assertEqual(outcome(getattr(shelf, name), *arguments), wanted)
        self.assertEqual(shelf_picture(shelf), ahead)

    def test_reopen(self):
        shelf = WishShelf(CLOSED, TREE, (CLEAR,))
        self.refused(shelf, raised("Against", 0, (0, 1, 2)), "reopen", 1)
        self.assertEqual((shelf.close(2), shelf.reopen(1)), (1, 2))
        self.refused(shelf, raised("Against", 0, (0, 1, 2)), "reopen", 2)

    def test_add(self):
        shelf = WishShelf(CLOSED, TREE, (CLEAR,))
        # The same hand may put a kind under closed ones, but not against the wish.
        self.refused(shelf, raised("Against", 0, (0, 1, 2, 5)), "add", (1, 2), False, False)
        self.assertEqual(shelf.add((3,), False, False), 1)

    def test_hollow_and_closed_kinds_have_no_lot(self):
        shelf = WishShelf(CLOSED, TREE, (CLEAR,))
        self.assertEqual(shelf.add((1, 2), True, True), 1)
        self.refused(shelf, raised("Against", 0, (0, 1, 2, 5)), "reopen", 5)

    def test_close_is_never_against(self):
        shelf = WishShelf(CLOSED, TREE, (CLEAR, NEVER))
        self.assertEqual((shelf.close(0), shelf.close(2), shelf.close(3)), (1, 2, 3))

    def test_choose_raises_none(self):
        shelf = WishShelf(CLOSED, TREE, (("never", TREE, 8), CLEAR))
        self.assertEqual((shelf.choose(8), shelf.choose(()), shelf.choose((1, 8, 8))), (1, 2, 3))

    def test_the_first_wish_that_is_not_kept(self):
        kept = ("never", TREE, 8)
        shelf = WishShelf(CLOSED, TREE, (kept, NEVER, CLEAR))
        self.refused(shelf, raised("Against", 1, (0, 1, 2)), "reopen", 1)
        shelf = WishShelf(CLOSED, TREE, (kept, ("full", ((0, 5),)), NEVER))
        self.refused(shelf, raised("Against", 2, (0, 1, 2)), "reopen", 1)
        self.refused(shelf, raised("Against", 1, (5,)), "add", (), False, False)

    def test_behind_other_errors(self):
        shelf = WishShelf(CLOSED, TREE, (CLEAR,))
        self.refused(shelf, raised("BadKinds", "closed"), "add", (1, 2), 0, False)
        self.refused(shelf, raised("BadKinds", "hollow"), "add", (1, 2), False, 0)
        self.refused(shelf, raised("NoKind", 5), "reopen", 5)
        self.refused(shelf, raised("Idle"), "reopen", 0)
        shelf.run([("choose", 0)] * 30)
        self.refused(shelf, raised("Full"), "reopen", 1)
        self.refused(shelf, raised("Full"), "add", (1, 2), False, False)
        shelf.undo()
        self.refused(shelf, raised("Against", 0, (0, 1, 2)), "reopen", 1)

    def test_news_stays(self):
        shelf = WishShelf(CLOSED, TREE, (CLEAR,))
        shelf.choose(ROWS)
        self.assertEqual(shelf.news, ((7,), ()))
        self.refused(shelf, raised("Against", 0, (0, 1, 2)), "reopen", 1)
        self.assertEqual(shelf.news, ((7,), ()))

    def test_in_a_run(self):
        shelf = WishShelf(CLOSED, TREE, (CLEAR,))
        error = Against(0, (0, 1, 2))
        self.refused(shelf, raised("Rejected", 0, error), "run", [("reopen", 1)])
        self.refused(shelf, raised("Rejected", 2, error), "run", (("choose", 0), ("close", 3), ("reopen", 1)))
        # Each edit of a run is looked at, not the end alone.
        self.refused(shelf, raised("Rejected", 0, error), "run", [("reopen", 1), ("close", 2)])
        self.assertEqual(shelf.run([("close", 2), ("reopen", 1)]), 2)

    def test_undo_raises_none(self):
        shelf = WishShelf(CLOSED, TREE, (CLEAR,))
        shelf.run([("close", 2), ("reopen", 1), ("choose", 3)])
        self.assertEqual((shelf.undo(), shelf.undo(), shelf.undo()), (2, 1, 0))
        self.refused(shelf, raised("NothingToUndo"), "undo")

    def test_twins(self):
        shelf = WishShelf(CLOSED, TREE, (CLEAR, NEVER))
        shelf.close(2)
        twin = shelf.twin()
        self.assertEqual(picture(twin.wishes), picture((CLEAR, NEVER)))
        self.assertEqual(twin.reopen(1), 2)
        self.refused(twin, raised("Against", 0, (0, 1, 2)), "reopen", 2)
        shelf.undo()
        self.refused(shelf, raised("Against", 0, (0, 1, 2)), "reopen", 1)
        self.refused(shelf.twin(), raised("Against", 0, (0, 1, 2)), "reopen", 1)
        self.assertEqual((twin.undo(), twin.undo(), twin.kinds), (1, 0, CLOSED))

    def test_wishes_stay_behind_edits(self):
        shelf = edited(WishShelf(example(), TREE, (("never", TREE, 9),)))
        self.assertEqual(shelf.wishes, (("never", TREE, 9),))


class TestLoggedShelf(unittest.TestCase):
    def log(self, shelf, *wanted):
        self.assertEqual(picture(shelf.log), picture(wanted))

    def test_at_first(self):
        shelf = LoggedShelf(example(), TREE)
        self.assertIsInstance(shelf, Shelf)
        self.log(shelf)

    def test_a_pair_for_each_call_in_order(self):
        shelf = LoggedShelf(example(), TREE)
        shelf.close(1), shelf.add((0,), False, False), shelf.undo(), shelf.reopen(1), shelf.choose(ROWS)
        self.log(shelf, ("close", 1), ("add", 2), ("undo", 1), ("reopen", 2), ("choose", 3))
        shelf.run([("close", 2), ("choose", 0)]), shelf.undo(), shelf.run(())
        self.log(shelf, ("close", 1), ("add", 2), ("undo", 1), ("reopen", 2), ("choose", 3), ("run", 5), ("undo", 4),
                 ("run", 4))

    def test_none_for_the_edits_of_a_run(self):
        shelf = LoggedShelf(example(), TREE)
        shelf.run([("choose", 0)] * 30)
        self.log(shelf, ("run", 30))

    def test_none_for_calls_that_raise_something(self):
        shelf = LoggedShelf(example(), TREE)
        for name, arguments in (("close", (4,)), ("reopen", (9,)), ("choose", (10,)), ("add", (0, 0, 0)), ("undo", ()),
                                ("run", (0,)), ("run", ((0,),)), ("run", ((("close", 1), ("close", 1)),))):
            self.assertEqual(outcome(getattr(shelf, name), *arguments)[0], "raised")
            self.log(shelf)
        shelf.run([("choose", 0)] * 30)
        self.assertEqual(outcome(shelf.close, 1), raised("Full"))
        self.log(shelf, ("run", 30))

    def test_none_for_questions(self):
        shelf = LoggedShelf(example(), TREE)
        shelf.twin(), shelf((0,)), str(shelf), shelf == shelf, shelf.news
        self.log(shelf)

    def test_more_than_thirty_pairs(self):
        shelf = LoggedShelf(example(), TREE)
        for step in range(50):
            shelf.choose(0), shelf.undo()
        self.log(shelf, *(("choose", 1), ("undo", 0)) * 50)

    def test_what_was_told_stays_as_it_is(self):
        shelf = LoggedShelf(example(), TREE)
        shelf.close(1)
        told = shelf.log
        shelf.close(2)
        self.assertEqual(told, (("close", 1),))

    def test_twins(self):
        shelf = LoggedShelf(example(), TREE)
        shelf.close(1)
        twin = shelf.twin()
        self.log(twin, ("close", 1))
        shelf.undo(), twin.choose(0), twin.close(2)
        self.log(shelf, ("close", 1), ("undo", 0))
        self.log(twin, ("close", 1), ("choose", 2), ("close", 3))
        self.log(twin.twin(), ("close", 1), ("choose", 2), ("close", 3))

    def test_log_can_only_be_read(self):
        shelf = LoggedShelf(example(), TREE)
        with self.assertRaises(AttributeError):
            shelf.log = ()


if __name__ == "__main__":
    unittest.main()
