"""Point 15, closings, and point 2 (d)."""

import unittest

from drawing import drawn
from kindstocome.hierarchies import Kinds
from kindstocome.wishes import closings, keeps
from oracles import enough_closings, small_kinds, tried_closings
from samples import Asking, ROWS, TREE, example

NO_LOTS = Kinds(((), (0,)), (0, 1), (0, 1), True)
CLEAR = ("clear", ((1, 5), (2, 6), (3, 7)))
APART = Kinds(((),) * 6, (), (), True)


def never(*needs):
    """The wish that no lot has all these kinds, at most three, with others perhaps."""
    return ("never", ((tuple((kind, True) for kind in needs), 5),), 5)


class TestClosings(Asking):
    def close(self, kinds, wish):
        told = self.ask(closings, kinds, wish)
        self.assertEqual(told, tried_closings(kinds, wish), wish)
        for some in told:
            self.assertIs(keeps(kinds.closing(some), wish), True)
        return told

    def test_kept_already(self):
        self.assertEqual(self.close(example(), ("never", TREE, 8)), ((),))
        self.assertEqual(self.close(example(), ("alike", ROWS, ROWS)), ((),))
        self.assertEqual(self.close(example(), ("clear", ())), ((),))
        self.assertEqual(self.close(example(), ("full", ((0, 1),))), ((),))
        self.assertEqual(self.close(example(), ("any order", ())), ((),))

    def test_never_to_be_kept(self):
        self.assertEqual(self.close(example(), ("never", TREE, 7)), ())
        self.assertEqual(self.close(example(), ("alike", TREE, ROWS)), ())
        self.assertEqual(self.close(example(), ("clear", ((1, 5), (2, 6)))), ())
        self.assertEqual(self.close(example(), ("full", ())), ())
        self.assertEqual(self.close(example(), ("any order", ROWS)), ())

    def test_one_set(self):
        self.assertEqual(self.close(example(), ("full", ((1, 1), (2, 1), (4, 1)))), ((0,),))
        self.assertEqual(self.close(example().closing((2, 3)), ("never", (1, (2, (3, 0, 1), 0), 0), 1)), ((),))
        hollow = Kinds(((), (), ()), (), (0, 1, 2), True)
        self.assertEqual(self.close(hollow, ("never", 1, 1)), ((0, 1, 2),))

    def test_several_sets(self):
        self.assertEqual(self.close(example(), CLEAR), ((1,), (2,)))
        self.assertEqual(self.close(APART, never(1, 4)), ((1,), (4,)))
        self.assertEqual(self.close(APART, never(0, 3, 5)), ((0,), (3,), (5,)))

    def test_sets_of_unlike_lengths(self):
        # A lot with 0 and one of the others: close 0, or all the others.
        rows = ((((0, True), (1, True)), 5), (((0, True), (2, True)), 5), (((0, True), (3, True)), 5))
        apart = Kinds(((),) * 4, (), (), True)
        self.assertEqual(self.close(apart, ("never", rows, 5)), ((0,), (1, 2, 3)))
        # The order is by length first: (3,) stands ahead of (0, 1).
        rows = ((((0, True), (3, True)), 5), (((1, True), (3, True)), 5))
        self.assertEqual(self.close(apart, ("never", rows, 5)), ((3,), (0, 1)))
        rows = ((((0, True), (3, True)), 5), (((1, True), (3, True)), 5), (((0, True), (1, True)), 5))
        self.assertEqual(self.close(apart, ("never", rows, 5)), ((0, 1), (0, 3), (1, 3)))

    def test_kinds_that_are_closed_already(self):
        self.assertEqual(self.close(example().closing((1,)), CLEAR), ((),))
        self.assertEqual(self.close(APART.closing((0,)), never(1, 4)), ((1,), (4,)))
        self.assertEqual(self.close(APART.closing((4,)), never(1, 4)), ((),))
        rows = ((((0, True), (3, True)), 5), (((1, True), (3, True)), 5))
        self.assertEqual(self.close(APART.closing((0,)), ("never", rows, 5)), ((1,), (3,)))
        every = APART.closing((0, 1, 2, 3, 4, 5))
        self.assertEqual(self.close(every, ("never", 1, 1)), ())
        self.assertEqual(self.close(every, never(1, 2)), ((),))

    def test_kinds_without_lots(self):
        for wish in (("alike", 1, 2), ("never", 1, 1), ("clear", ((0, 1), (1, 2))), ("full", ()),
                     ("any order", (((), 1), ((), 2)))):
            self.assertEqual(self.close(NO_LOTS, wish), ((),))

    def test_one_elder(self):
        single = Kinds(((), (0,), (0,)), (), (0,), False)
        self.assertEqual(self.close(single, ("clear", ((1, 5), (2, 6)))), ((),))
        self.assertEqual(self.close(single, ("full", ((1, 5), (2, 6)))), ((0,),))

    def test_small_ones(self):
        wishes = [("never", (0, 1, 2), 1), ("alike", (0, (1, 1, 2), 3), (1, 1, 3)), ("clear", ((0, 1), (1, 2))),
                  ("full", ((1, 1),)), ("any order", ((((0, True),), 1), (((1, True),), 2)))]
        for several in (True, False):
            for kinds in small_kinds(2, several):
                for wish in wishes:
                    self.close(kinds, wish)

    def test_drawn_ones(self):
        lengths = {}
        for kinds, draw in drawn(44, 250):
            told = self.close(kinds, draw.wish(kinds))
            lengths[len(told)] = lengths.get(len(told), 0) + 1
        self.assertTrue(lengths[0] > 20 and lengths[1] > 20, lengths)

    def test_drawn_ones_of_six_kinds_without_elders(self):
        many = 0
        for other, draw in drawn(45, 60):
            many += len(self.close(APART, draw.wish(APART))) > 1
        self.assertTrue(many > 5, many)

    def test_by_name(self):
        self.assertEqual(self.ask(closings, wish=CLEAR, kinds=example()), ((1,), (2,)))


class TestPoint2d(Asking):
    def test_every_set_that_is_enough_has_one_within(self):
        for kinds, draw in drawn(46, 150):
            wish = draw.wish(kinds)
            told = self.ask(closings, kinds, wish)
            enough = enough_closings(kinds, wish)
            for some in enough:
                self.assertTrue(any(set(least) <= set(some) for least in told), (wish, some))
            for least in told:
                self.assertIn(least, enough)
                for at in range(len(least)):
                    self.assertNotIn(least[:at] + least[at + 1:], enough)


class TestExamplesOfPoint15(unittest.TestCase):
    def test_examples(self):
        self.assertEqual(closings(example(), CLEAR), ((1,), (2,)))
        self.assertEqual(closings(example(), ("never", TREE, 7)), ())


if __name__ == "__main__":
    unittest.main()
