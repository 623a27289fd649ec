"""reached_places and trimmed of point 10."""

import unittest

from drawing import drawn
from kindstocome.choices import is_tree, tests
from kindstocome.comparing import alike, reached_places, trimmed
from kindstocome.hierarchies import Kinds
from oracles import tree_walk, tried_lots
from samples import Asking, TREE, example

NO_LOTS = Kinds(((), (0,)), (0, 1), (0, 1), True)
APART = Kinds(((), ()), (), (), True)


def walked_places(kinds, tree):
    """The places to which lots come: all that stand on the way of a lot to its answer."""
    found = set()
    for lot in tried_lots(kinds):
        place = tree_walk(tree, lot)[1]
        found |= {place[:many] for many in range(len(place) + 1)}
    return tuple(sorted(found, key=lambda place: (len(place), [0 if step else 1 for step in place])))


def places_of_triples(tree):
    if type(tree) is int:
        return []
    ahead = [(True,) + place for place in places_of_triples(tree[1])]
    return [()] + ahead + [(False,) + place for place in places_of_triples(tree[2])]


def at_place(tree, place):
    for step in place:
        tree = tree[1 if step else 2]
    return tree


def replaced(tree, place, part):
    if place == ():
        return part
    kind, yes, no = tree
    if place[0]:
        return (kind, replaced(yes, place[1:], part), no)
    return (kind, yes, replaced(no, place[1:], part))


def first_going(kinds, tree):
    """One triple that lots pass by the one side alone replaced after the other, the innermost first."""
    coming = walked_places(kinds, tree)
    for place in reversed(places_of_triples(tree)):
        sides = [place + (step,) in coming for step in (True, False)]
        if place in coming and sides != [True, True]:
            part = at_place(tree, place + (sides[0],))
            return first_going(kinds, replaced(tree, place, part))
    return tree


def second_going(tree):
    """One triple with two sides that are the same replaced after the other, the outermost first."""
    for place in places_of_triples(tree):
        kind, yes, no = at_place(tree, place)
        if yes == no:
            return second_going(replaced(tree, place, yes))
    return tree


class TestReachedPlaces(Asking):
    def places(self, kinds, tree):
        told = self.ask(reached_places, kinds, tree)
        for place in told:
            for step in place:
                self.assertIn(step, (True, False))
                self.assertIs(type(step), bool)
        self.assertEqual(told, walked_places(kinds, tree))
        return told

    def test_an_answer_alone(self):
        for number in (0, 9):
            self.assertEqual(self.places(example(), number), ((),))

    def test_by_their_length_then_true_ahead_of_false(self):
        self.assertEqual(
            self.places(example(), TREE),
            ((), (True,), (False,), (True, True), (True, False), (False, True), (False, False)))
        self.assertEqual(
            self.places(APART, (0, 1, (1, 2, 3))), ((), (True,), (False,), (False, True)))
        self.assertEqual(
            self.places(APART, (0, (1, 2, 3), 4)), ((), (True,), (False,), (True, True), (True, False)))

    def test_one_side_alone(self):
        self.assertEqual(self.places(example(), (0, 1, 2)), ((), (True,)))
        self.assertEqual(self.places(example(), (0, 1, TREE)), ((), (True,)))
        closed = example().closing((0, 1, 2, 3))
        self.assertEqual(self.places(closed, (4, (1, 2, 3), 4)), ((), (True,), (False,), (True, False)))

    def test_tests_asked_again_below(self):
        self.assertEqual(
            self.places(example(), (1, (1, 2, 3), (1, 4, 5))),
            ((), (True,), (False,), (True, True), (False, False)))
        self.assertEqual(
            self.places(example(), (3, (1, 2, 3), (1, 4, 5))),
            ((), (True,), (False,), (True, True), (False, True), (False, False)))

    def test_kinds_without_lots(self):
        for tree in (0, 5, (0, 1, 2), (0, (1, 2, 3), 4)):
            self.assertEqual(self.places(NO_LOTS, tree), ())

    def test_deep_ones(self):
        tree = 9
        for step in range(12):
            tree = (step % 2, 1, tree)
        self.assertEqual(self.places(APART, tree), ((), (True,), (False,), (False, True)))
        tree = 9
        for step in range(12):
            tree = (0, tree, 1)
        wanted = [(True,) * many for many in range(13)]
        self.assertEqual(self.places(APART, tree), tuple(sorted(wanted + [(False,)], key=len)))

    def test_drawn_ones(self):
        for kinds, draw in drawn(15, 300):
            self.places(kinds, draw.tree(kinds, draw.below(13)))

    def test_by_name(self):
        self.assertEqual(self.ask(reached_places, tree=(0, 1, 2), kinds=example()), ((), (True,)))


class TestTrimmed(Asking):
    def trim(self, kinds, tree):
        told = self.ask(trimmed, kinds, tree)
        self.assertEqual(told, second_going(first_going(kinds, tree)))
        self.assertEqual(self.ask(trimmed, kinds, told), told)
        self.assertTrue(is_tree(kinds, told))
        self.assertIs(alike(kinds, told, tree), True)
        return told

    def test_what_stays(self):
        for tree in (0, 9, TREE, (1, 5, (2, 6, 0)), (3, 1, 0)):
            self.assertEqual(self.trim(example(), tree), tree)

    def test_one_side_alone(self):
        self.assertEqual(self.trim(example(), (0, 1, 2)), 1)
        self.assertEqual(self.trim(example(), (0, TREE, 2)), TREE)
        self.assertEqual(self.trim(example(), (1, (4, 1, 2), 3)), (1, 2, 3))
        self.assertEqual(self.trim(example(), (4, 1, (0, (0, 2, 3), 4))), (4, 1, 2))
        self.assertEqual(self.trim(example(), (1, (0, (0, 5, 1), 2), (0, (1, 3, 4), 2))), (1, 5, 4))

    def test_both_sides_the_same(self):
        self.assertEqual(self.trim(example(), (1, 3, 3)), 3)
        self.assertEqual(self.trim(example(), (1, (2, 3, 3), 4)), (1, 3, 4))
        self.assertEqual(self.trim(example(), (1, 4, (2, 3, 3))), (1, 4, 3))
        self.assertEqual(self.trim(APART, (0, (1, 1, 2), (1, 1, 2))), (0, (1, 1, 2), 1))
        self.assertEqual(self.trim(example(), (2, (1, (2, 8, 8), 8), 8)), 8)
        self.assertEqual(self.trim(example(), (2, (1, 1, 2), (1, 1, 2))), (1, 1, 2))

    def test_a_test_asked_again_below(self):
        self.assertEqual(self.trim(example(), (1, (1, 2, 3), (1, 4, 5))), (1, 2, 5))
        self.assertEqual(self.trim(example(), (1, (2, (1, 6, 7), 8), 0)), (1, (2, 6, 8), 0))
        self.assertEqual(self.trim(example(), (3, (1, (2, 1, 2), 3), 4)), (3, 1, 4))

    def test_sides_that_become_the_same_only_behind_trimming(self):
        self.assertEqual(self.trim(example(), (1, (2, 3, 3), 3)), 3)
        self.assertEqual(self.trim(example(), (1, (0, 3, 4), (0, 3, 5))), 3)
        self.assertEqual(self.trim(example(), (1, (1, 3, 4), (1, 5, 3))), 3)
        self.assertEqual(self.trim(example(), (2, (1, (0, 6, 1), 7), (1, (2, 5, 6), (4, 7, 7)))), (1, 6, 7))

    def test_sides_that_are_not_the_same_stay(self):
        # (2, 1, (1, 2, 3)) is alike and has fewer tests, but a triple is only replaced by its side.
        tree = (1, (2, 1, 2), (2, 1, 3))
        self.assertIs(alike(example(), tree, (2, 1, (1, 2, 3))), True)
        self.assertEqual(self.trim(example(), tree), tree)
        # What the sides become is not the same tree either.
        tree = (4, (1, (2, 3, 4), (2, 3, 5)), (2, 3, (1, 4, 5)))
        self.assertEqual(self.trim(example(), tree), (4, 5, (2, 3, (1, 4, 5))))
        crossed = Kinds(((), (), ()), (), (), True)
        tree = (0, (1, (2, 3, 4), (2, 3, 5)), (2, (1, 3, 3), (1, 4, 5)))
        self.assertEqual(self.trim(crossed, tree), (0, (1, (2, 3, 4), (2, 3, 5)), (2, 3, 4)))

    def test_kinds_without_lots(self):
        for tree in (0, 5, (0, 1, 2), (0, (0, 1, 2), 3), (1, (0, 1, 2), (1, 1, 2))):
            self.assertEqual(self.trim(NO_LOTS, tree), tree)
        for tree, wanted in (((0, 1, 1), 1), ((0, (1, 2, 2), 2), 2), ((1, (0, 1, 2), (0, 1, 2)), (0, 1, 2)),
                             ((0, (1, 4, 4), 3), (0, 4, 3))):
            self.assertEqual(self.trim(NO_LOTS, tree), wanted)

    def test_somewhat_more_tests(self):
        tree = (0, 2, 3)
        for step in range(15):
            tree = (step % 2, tree, 3)
        told = self.ask(trimmed, APART, tree)
        self.assertEqual(told, (0, (1, 2, 3), 3))

    def test_drawn_ones(self):
        shorter = 0
        for kinds, draw in drawn(16, 300):
            tree = draw.tree(kinds, draw.below(13))
            shorter += 0 < tests(self.trim(kinds, tree)) < tests(tree)
        self.assertTrue(shorter > 50, shorter)

    def test_drawn_ones_of_many_lots(self):
        kinds = Kinds(((),) * 6, (), (), True)
        for other, draw in drawn(17, 100):
            self.trim(kinds, draw.tree(kinds, 12))

    def test_by_name(self):
        self.assertEqual(self.ask(trimmed, tree=(0, 1, 2), kinds=example()), 1)


if __name__ == "__main__":
    unittest.main()
