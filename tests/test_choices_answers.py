"""Point 8: chosen, answer, answers and where."""

import unittest

from drawing import drawn
from kindstocome.choices import answer, answers, chosen, where
from kindstocome.hierarchies import Kinds
from kindstocome.lots import lots
from oracles import choice_told
from samples import Asking, ROWS, TREE, example, subsets

NO_LOTS = Kinds(((), (0,)), (0, 1), (0, 1), True)

# Needs of True and of False together, needs that never hold, and none at all.
MIXED = ((((0, True), (1, False)), 3), (((1, True), (2, True), (3, False)), 4), (((3, True), (4, True)), 9), ((), 2))


class TestChosen(Asking):
    def test_the_first_row_whose_needs_hold(self):
        for lot, index in (((0,), None), ((0, 1), 0), ((0, 2), 1), ((0, 1, 2), 0), ((0, 1, 2, 3), 0), ((0, 4), None)):
            self.assertEqual(self.ask(chosen, ROWS, lot), index)

    def test_needs_of_false(self):
        told = [self.ask(chosen, MIXED, lot) for lot in lots(example())]
        self.assertEqual(told, [3, 3, 0, 0, 0, 1])

    def test_all_needs_of_a_row(self):
        rows = ((((0, True), (1, True), (2, False)), 1),)
        self.assertEqual([self.ask(chosen, rows, lot) for lot in ((0, 1), (0,), (1,), (0, 1, 2), (0, 1, 3))],
                         [0, None, None, None, 0])

    def test_no_needs(self):
        for lot in ((), (0,), (0, 4), (0, 1, 2)):
            self.assertEqual(self.ask(chosen, (((), 7), ((), 8)), lot), 0)
            self.assertEqual(self.ask(chosen, ((((5, True),), 7), ((), 8)), lot), 1)

    def test_no_rows(self):
        for lot in lots(example()) + ((),):
            self.assertIsNone(self.ask(chosen, (), lot))

    def test_tuples_that_are_no_lots(self):
        self.assertIsNone(self.ask(chosen, ROWS, ()))
        self.assertEqual(self.ask(chosen, ROWS, (1,)), 0)
        self.assertEqual(self.ask(chosen, ROWS, (2, 4)), 1)
        self.assertEqual(self.ask(chosen, ((((0, False),), 1),), ()), 0)

    def test_by_name(self):
        self.assertEqual(self.ask(chosen, lot=(0, 2), rows=ROWS), 1)


class TestAnswer(Asking):
    def test_a_tree(self):
        self.assertEqual([self.ask(answer, TREE, lot) for lot in lots(example())], [5, 7, 6, 0, 0, 7])

    def test_rows(self):
        self.assertEqual([self.ask(answer, ROWS, lot) for lot in lots(example())], [5, 5, 6, 0, 0, 5])
        self.assertEqual([self.ask(answer, MIXED, lot) for lot in lots(example())], [2, 2, 3, 3, 3, 4])

    def test_the_empty_tuple(self):
        for lot in lots(example()) + ((), (1, 4)):
            self.assertEqual(self.ask(answer, (), lot), 0)

    def test_an_answer_alone(self):
        for number in range(10):
            for lot in ((), (0,), (0, 1, 2, 3)):
                self.assertEqual(self.ask(answer, number, lot), number)

    def test_tuples_that_are_no_lots(self):
        for lot, told in (((), 0), ((1,), 5), ((2,), 6), ((1, 2), 7), ((3, 4), 0), ((1, 4), 5)):
            self.assertEqual(self.ask(answer, TREE, lot), told)
        for lot, told in (((), 0), ((1,), 5), ((2,), 6), ((1, 2), 5), ((3, 4), 0)):
            self.assertEqual(self.ask(answer, ROWS, lot), told)

    def test_a_kind_asked_again_below(self):
        tree = (1, (1, 2, 3), (1, 4, 5))
        self.assertEqual([self.ask(answer, tree, lot) for lot in ((0,), (0, 1), (), (1,))], [5, 2, 5, 2])

    def test_nought_as_a_first_kind_and_as_a_first_answer(self):
        self.assertEqual(self.ask(answer, (0, 8, 9), (0,)), 8)
        self.assertEqual(self.ask(answer, (0, 8, 9), ()), 9)
        self.assertEqual(self.ask(answer, 0, (0,)), 0)

    def test_drawn_ones(self):
        for kinds, draw in drawn(8, 200):
            choice = draw.choice(kinds)
            for lot in subsets(range(len(kinds))):
                self.assertEqual(self.ask(answer, choice, lot), choice_told(choice, lot))

    def test_somewhat_more_rows_needs_and_tests(self):
        rows = tuple((((0, True), (1, True), (2, True), (3, kind > 7)), kind) for kind in range(9))
        self.assertEqual(self.ask(answer, rows, (0, 1, 2, 3)), 8)
        self.assertEqual(self.ask(answer, ((((0, True),), 12),), (0,)), 12)
        tree = 9
        for step in range(18):
            tree = (step % 6, 1, tree)
        self.assertEqual((self.ask(answer, tree, ()), self.ask(answer, tree, (3,))), (9, 1))

    def test_by_name(self):
        self.assertEqual(self.ask(answer, lot=(0, 1, 2), choice=TREE), 7)
        self.assertEqual(self.ask(answer, lot=(0, 1, 2), choice=ROWS), 5)


class TestAnswers(Asking):
    def test_trees_and_rows(self):
        self.assertEqual(self.ask(answers, example(), TREE), (0, 5, 6, 7))
        self.assertEqual(self.ask(answers, example(), ROWS), (0, 5, 6))
        self.assertEqual(self.ask(answers, example(), MIXED), (2, 3, 4))

    def test_just_those_of_lots(self):
        self.assertEqual(self.ask(answers, example(), (0, 1, 2)), (1,))
        self.assertEqual(self.ask(answers, example(), (1, (4, 9, 8), 3)), (3, 8))

    def test_ascending(self):
        apart = Kinds(((), (), ()), (0, 1, 2), (), False)
        self.assertEqual(self.ask(answers, apart, (0, 9, (1, 0, 4))), (0, 4, 9))
        self.assertEqual(self.ask(answers, apart, (0, 4, (1, 9, 4))), (4, 9))

    def test_an_answer_alone_and_no_rows(self):
        self.assertEqual(self.ask(answers, example(), 6), (6,))
        self.assertEqual(self.ask(answers, example(), ()), (0,))

    def test_kinds_without_lots(self):
        for choice in (0, 6, (), (0, 1, 2), ROWS):
            self.assertEqual(self.ask(answers, NO_LOTS, choice), ())

    def test_drawn_ones(self):
        for kinds, draw in drawn(9, 200):
            choice = draw.choice(kinds)
            told = {choice_told(choice, lot) for lot in lots(kinds)}
            self.assertEqual(self.ask(answers, kinds, choice), tuple(sorted(told)))

    def test_by_name(self):
        self.assertEqual(self.ask(answers, choice=ROWS, kinds=example()), (0, 5, 6))


class TestWhere(Asking):
    def test_trees_and_rows(self):
        self.assertEqual(self.ask(where, example(), TREE, 7), ((0, 1, 2, 3), (0, 1, 2)))
        self.assertEqual(self.ask(where, example(), TREE, 0), ((0, 4), (0,)))
        self.assertEqual(self.ask(where, example(), ROWS, 5), ((0, 1), (0, 1, 2, 3), (0, 1, 2)))
        self.assertEqual(self.ask(where, example(), (), 0), lots(example()))
        self.assertEqual(self.ask(where, example(), 3, 3), lots(example()))

    def test_nowhere(self):
        for number in (1, 2, 3, 4, 8, 9, 10, -1):
            self.assertEqual(self.ask(where, example(), TREE, number), ())
        self.assertEqual(self.ask(where, example(), (), 1), ())
        self.assertEqual(self.ask(where, NO_LOTS, 3, 3), ())

    def test_drawn_ones(self):
        for kinds, draw in drawn(10, 150):
            choice = draw.choice(kinds)
            for number in range(4):
                told = tuple(lot for lot in lots(kinds) if choice_told(choice, lot) == number)
                self.assertEqual(self.ask(where, kinds, choice, number), told)

    def test_by_name(self):
        self.assertEqual(self.ask(where, number=6, choice=TREE, kinds=example()), ((0, 2),))


class TestExamplesOfPoint8(unittest.TestCase):
    def test_examples(self):
        kinds = example()
        self.assertEqual([answer(TREE, lot) for lot in ((0,), (0, 1), (0, 2), (0, 1, 2))], [0, 5, 6, 7])
        self.assertEqual((chosen(ROWS, (0, 1, 2)), answer(ROWS, (0, 4))), (0, 0))
        self.assertEqual(
            (answers(kinds, TREE), where(kinds, TREE, 7)), ((0, 5, 6, 7), ((0, 1, 2, 3), (0, 1, 2))))


if __name__ == "__main__":
    unittest.main()
