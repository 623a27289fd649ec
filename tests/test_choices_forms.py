"""Point 7, is_tree, tests and depth, and is_rows of point 8."""

import unittest

from drawing import drawn
from kindstocome.choices import depth, is_rows, is_tree, tests
from kindstocome.hierarchies import Kinds
from oracles import right_rows, right_tree, triples
from samples import Asking, BIG, ROWS, TREE, any_values, example, variants

ONE = Kinds(((),), (), (), False)


def chain(many, side):
    """A tree of so many triples, all within one another, by its side 1 or 2."""
    tree = 5
    for step in range(many):
        tree = (step % 5, tree, 3) if side == 1 else (step % 5, 3, tree)
    return tree


def bushy(many):
    """A tree of so many triples that is as flat as can be."""
    if many == 0:
        return 4
    return (0, bushy((many - 1) // 2), bushy(many - 1 - (many - 1) // 2))


class TestIsTree(Asking):
    def right(self, *values):
        for value in values:
            self.is_so(is_tree, example(), value, True)

    def wrong(self, *values):
        for value in values:
            self.is_so(is_tree, example(), value, False)

    def test_answers(self):
        self.right(*range(10))
        self.wrong(10, 11, 99, -1, -9, BIG, -BIG)

    def test_triples(self):
        self.right((0, 0, 0), (4, 9, 9), (1, 2, 3), TREE, (0, (1, 2, 3), 4), (0, 4, (1, 2, 3)), (0, (0, 0, 0), 0))
        self.wrong((0, 10, 0), (0, 0, 10), (0, -1, 0), (0, 0, -1), (0, (1, 2, 10), 4), (0, 4, (1, -1, 3)))

    def test_twelve_and_thirteen(self):
        for made in (lambda many: chain(many, 1), lambda many: chain(many, 2), bushy):
            for many in range(13):
                self.assertEqual(tests(made(many)), many)
                self.right(made(many))
            self.wrong(made(13), made(14), made(18))

    def test_thirteen_on_both_sides_together(self):
        self.right((0, bushy(6), bushy(5)), (0, bushy(0), chain(11, 1)), (0, chain(11, 2), 1))
        self.wrong((0, bushy(6), bushy(6)), (0, bushy(0), chain(12, 1)), (0, chain(12, 2), 1))

    def test_kinds_that_are_none(self):
        self.wrong((5, 1, 2), (6, 1, 2), (-1, 1, 2), (BIG, 1, 2), (0, (5, 1, 2), 3), (0, 3, (-1, 1, 2)), (None, 1, 2))
        for kind in range(6):
            self.is_so(is_tree, ONE, (kind, 1, 2), kind == 0)
            self.is_so(is_tree, Kinds(((),) * 6, (), (), True), (kind, 1, 2), True)

    def test_true_and_false_are_no_numbers(self):
        self.wrong(True, False, (True, 1, 2), (False, 1, 2), (0, True, 2), (0, 1, False), (0, (True, 1, 2), 1))

    def test_lists(self):
        self.wrong([], [0, 1, 2], (0, [0, 1, 2], 3), (0, 3, [0, 1, 2]), ([0], 1, 2), [1], (0, [1], 2))

    def test_other_lengths(self):
        self.wrong((), (0,), (0, 1), (0, 1, 2, 3), ((0, 1, 2),), (0, (0, 1), 2), (0, 1, (0, 1, 2, 3)), (0, (), 1))

    def test_rows_are_no_trees(self):
        self.wrong(ROWS, (ROWS, 1, 2), ((), 1, 2))

    def test_any_value(self):
        for kinds in (example(), ONE):
            for value in any_values():
                for made in (value, (value, 1, 2), (0, value, 2), (0, 1, value), (0, (0, value, value), value)):
                    self.is_so(is_tree, kinds, made, right_tree(kinds, made))

    def test_right_ones_with_one_part_changed(self):
        for value in (TREE, (4, 9, (0, 0, 3))):
            for changed in variants(value):
                self.is_so(is_tree, example(), changed, right_tree(example(), changed))

    def test_by_name(self):
        self.assertIs(self.ask(is_tree, value=TREE, kinds=example()), True)
        self.assertIs(self.ask(is_tree, kinds=ONE, value=TREE), False)


class TestTestsAndDepth(Asking):
    def test_answers(self):
        for number in range(10):
            self.assertEqual((self.ask(tests, number), self.ask(depth, number)), (0, 0))

    def test_trees(self):
        for tree, wanted in (((0, 1, 2), (1, 1)), (TREE, (3, 2)), ((0, (1, (2, 3, 4), 5), 6), (3, 3)),
                             ((0, 6, (1, 5, (2, 4, 3))), (3, 3)), ((0, (1, 2, 3), (1, (2, 3, 4), 5)), (4, 3))):
            self.assertEqual((self.ask(tests, tree), self.ask(depth, tree)), wanted)

    def test_chains_and_bushes(self):
        for many in range(13):
            for side in (1, 2):
                self.assertEqual(self.ask(tests, chain(many, side)), many)
                self.assertEqual(self.ask(depth, chain(many, side)), many)
            self.assertEqual(self.ask(tests, bushy(many)), many)
            self.assertEqual(self.ask(depth, bushy(many)), many.bit_length())

    def test_the_same_side_twice_counts_twice(self):
        self.assertEqual((tests((0, TREE, TREE)), depth((0, TREE, TREE))), (7, 3))

    def test_somewhat_more(self):
        self.assertEqual((self.ask(tests, chain(18, 1)), self.ask(depth, chain(18, 2))), (18, 18))

    def test_drawn_ones(self):
        for kinds, draw in drawn(6, 100):
            tree = draw.tree(kinds, draw.below(13))
            self.assertEqual(self.ask(tests, tree), triples(kinds, tree))
            self.is_so(is_tree, kinds, tree, True)

    def test_by_name(self):
        self.assertEqual((tests(tree=TREE), depth(tree=TREE)), (3, 2))

    def test_example_of_point_8(self):
        self.assertEqual((tests(TREE), depth(TREE)), (3, 2))


def row(*needs):
    return (needs, 1)


class TestIsRows(Asking):
    def right(self, *values):
        for value in values:
            self.is_so(is_rows, example(), value, True)

    def wrong(self, *values):
        for value in values:
            self.is_so(is_rows, example(), value, False)

    def test_none_to_six_rows(self):
        for many in range(7):
            self.right((row(),) * many, (row((0, True)),) * many, (ROWS * 3)[:many])
        self.wrong((row(),) * 7, ROWS * 4, (row(),) * 300)

    def test_none_to_three_needs(self):
        needs = ((0, True), (1, False), (2, True), (4, False))
        for many in range(4):
            self.right((row(*needs[:many]),), (row(), row(*needs[:many])))
        self.wrong((row(*needs),), (row(), row(*needs)), (row(*needs), row()))

    def test_kinds_not_ascending_or_twice(self):
        self.wrong((row((1, True), (0, True)),), (row((1, True), (1, True)),), (row((1, True), (1, False)),))
        self.wrong((row((0, True), (2, True), (1, True)),), (row(), row((0, True), (0, False))))
        self.wrong((row((0, True), (1, True), (1, True)),))
        # False ahead of True does not count: only the kinds are ascending.
        self.right((row((0, True), (1, False)),), (row((0, False), (1, True)),))

    def test_kinds_that_are_none(self):
        for kind in (5, 6, -1, BIG, None, "0", (), (0,), True, False, [], {}):
            self.wrong((row((kind, True)),), (row(), row((kind, True))))
        self.right((row((4, True)),), (row((0, True)),))
        self.is_so(is_rows, ONE, (row((1, True)),), False)
        self.is_so(is_rows, ONE, (row((0, True)),), True)

    def test_one_and_nought_are_no_bools(self):
        self.wrong((row((0, 1)),), (row((0, 0)),), (row((0, True), (1, 1)),), (row((0, 0), (1, True)),))
        self.wrong((row((0, None)),), (row((0, "True")),), (row((0, ())),), (row((0, [])),))

    def test_bools_are_no_numbers(self):
        self.wrong((row((True, True)),), (row((False, True)),), (((), True),), (((), False),))

    def test_answers(self):
        for number in range(10):
            self.right((((), number),))
        for number in (10, 11, -1, BIG, None, "1", (), (1,), [1], 1 == 1):
            self.wrong((((), number),), (row(), ((), number)))

    def test_lists_at_each_depth(self):
        self.wrong([], [row()], ([(), 1],), (([], 1),), ((([0, True],), 1),), (([(0, True)], 1),), (((), [1]),))
        self.wrong((row(), [(), 1]), (row(), ([], 1)), (row(), (((0, True), [1, True]), 1)))

    def test_other_lengths(self):
        self.wrong(((),), (((),),), (((), 1, 1),), ((1, ()),), row(), ((((0,),), 1),), ((((0, True, True),), 1),))
        self.wrong(((((),), 1),), ((((0, True), ()), 1),), ((((0, True), (1,)), 1),))

    def test_a_need_that_stands_by_itself(self):
        self.wrong((((0, True), 1),), ((0, True),), ((0, 1),))

    def test_trees_are_no_rows(self):
        self.wrong(TREE, 0, 5, (0, 1, 2), (TREE,))

    def test_any_value(self):
        for kinds in (example(), ONE):
            for value in any_values():
                for made in (value, (value,), ((value, 1),), (((), value),), (((value,), 1),), ((((value, True),), 1),),
                             ((((0, value),), 1),), ((((0, True), value), 1),), (row(), value)):
                    self.is_so(is_rows, kinds, made, right_rows(kinds, made))

    def test_right_ones_with_one_part_changed(self):
        for value in (ROWS, (row((0, True), (1, False), (4, True)),), (row(),) * 6):
            for changed in variants(value):
                self.is_so(is_rows, example(), changed, right_rows(example(), changed))

    def test_drawn_ones(self):
        for kinds, draw in drawn(7, 100):
            self.is_so(is_rows, kinds, draw.rows(kinds, draw.below(7)), True)

    def test_by_name(self):
        self.assertIs(self.ask(is_rows, value=ROWS, kinds=example()), True)
        self.assertIs(self.ask(is_rows, kinds=ONE, value=ROWS), False)

    def test_what_is_passed_stays_as_it_is(self):
        value = [[[[0, True]], 1]]
        self.is_so(is_rows, example(), value, False)
        self.is_so(is_tree, example(), value, False)
        self.assertEqual(value, [[[[0, True]], 1]])


if __name__ == "__main__":
    unittest.main()
