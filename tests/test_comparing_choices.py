"""Point 9, first_unlike, alike, parts_at and first_part, and point 2 (b)."""

import itertools
import unittest

from drawing import Draw, drawn
from kindstocome.choices import answer
from kindstocome.comparing import alike, first_part, first_unlike, parts_at
from kindstocome.hierarchies import Kinds
from kindstocome.lots import lot_of, lots, members
from oracles import all_extensions, choice_told, small_kinds, tried_lots, tried_witness
from samples import Asking, ROWS, TREE, example

NO_LOTS = Kinds(((), (0,)), (0, 1), (0, 1), True)

# ROWS as a tree, TREE as rows, and rows that part from TREE only for new kinds under both 1 and 2.
ROWS_AS_TREE = (1, 5, (2, 6, 0))
TREE_AS_ROWS = ((((1, True), (2, True)), 7),) + ROWS
BUT_FOR_BOTH = ((((3, True),), 7),) + ROWS


class TestComparing(Asking):
    def compared(self, kinds, one, other):
        """What all four tell, which must go together."""
        lot = self.ask(first_unlike, kinds, one, other)
        every = self.ask(parts_at, kinds, one, other)
        part = self.ask(first_part, kinds, one, other)
        self.assertIs(self.ask(alike, kinds, one, other), lot is None)
        if lot is None:
            self.assertEqual((every, part), ((), None))
        else:
            self.assertEqual(every[0], lot)
            self.assertEqual(part, (tried_witness(kinds, lot), (choice_told(one, lot), choice_told(other, lot))))
        return lot, every, part

    def test_two_trees(self):
        self.assertEqual(
            self.compared(example(), TREE, ROWS_AS_TREE),
            ((0, 1, 2, 3), ((0, 1, 2, 3), (0, 1, 2)), (((), 3), (7, 5))))
        self.assertEqual(
            self.compared(example(), TREE, (3, 7, TREE)), (None, (), None))
        self.assertEqual(
            self.compared(example(), ROWS_AS_TREE, (3, 7, ROWS_AS_TREE)),
            ((0, 1, 2, 3), ((0, 1, 2, 3),), (((), 3), (5, 7))))

    def test_two_rows(self):
        self.assertEqual(
            self.compared(example(), BUT_FOR_BOTH, TREE_AS_ROWS), ((0, 1, 2), ((0, 1, 2),), ((((1, 2),), 5), (5, 7))))
        self.assertEqual(
            self.compared(example(), ROWS, ROWS[::-1]),
            ((0, 1, 2, 3), ((0, 1, 2, 3), (0, 1, 2)), (((), 3), (5, 6))))
        self.assertEqual(self.compared(example(), ROWS, ROWS + ROWS), (None, (), None))

    def test_a_tree_and_rows(self):
        self.assertEqual(self.compared(example(), TREE, TREE_AS_ROWS), (None, (), None))
        self.assertEqual(self.compared(example(), ROWS, ROWS_AS_TREE), (None, (), None))
        self.assertEqual(
            self.compared(example(), ROWS, TREE),
            ((0, 1, 2, 3), ((0, 1, 2, 3), (0, 1, 2)), (((), 3), (5, 7))))
        self.assertEqual(
            self.compared(example(), (), (1, 0, 4)),
            ((0, 2), ((0, 2), (0, 4), (0,)), (((), 2), (0, 4))))

    def test_a_new_kind_parts_them(self):
        self.assertEqual(
            self.compared(example(), TREE, BUT_FOR_BOTH), ((0, 1, 2), ((0, 1, 2),), ((((1, 2),), 5), (7, 5))))
        for kinds in (example().closing((1,)), example().closing((2,))):
            self.assertEqual(self.compared(kinds, TREE, BUT_FOR_BOTH), (None, (), None))
        single = Kinds(((), (0,), (0,)), (), (), False)
        self.assertEqual(self.compared(single, TREE, ROWS), (None, (), None))
        hollow = Kinds(((), (0,)), (), (0,), True)
        self.assertEqual(self.compared(hollow, (1, 5, 0), 5), ((0,), ((0,),), ((((0,),), 2), (0, 5))))
        self.assertEqual(self.compared(hollow.closing((0,)), (1, 5, 0), 5), (None, (), None))

    def test_the_same_choice_twice(self):
        for choice in (TREE, ROWS, (), 0, 9, (0, 1, 1), TREE_AS_ROWS):
            self.assertEqual(self.compared(example(), choice, choice), (None, (), None))

    def test_answers_alone(self):
        self.assertEqual(self.compared(example(), 3, 3), (None, (), None))
        self.assertEqual(self.compared(example(), 0, ()), (None, (), None))
        self.assertEqual(self.compared(example(), 3, 4), ((0, 1), lots(example()), (((), 1), (3, 4))))

    def test_kinds_without_lots(self):
        for one, other in itertools.product((0, 5, (), (0, 1, 2), ((((1, True),), 5),)), repeat=2):
            self.assertEqual(self.compared(NO_LOTS, one, other), (None, (), None))

    def test_in_the_order_of_lots(self):
        apart = Kinds(((), (), (0, 1)), (), (0, 1, 2), True)
        self.assertEqual(lots(apart), ((0,), (0, 1, 2), (1,), (0, 1)))
        self.assertEqual(self.compared(apart, (1, 1, 0), 0)[1], ((0, 1, 2), (1,), (0, 1)))

    def test_drawn_ones(self):
        unlike = 0
        for kinds, draw in drawn(11, 300):
            one, other = draw.choice(kinds), draw.choice(kinds)
            wanted = tuple(lot for lot in tried_lots(kinds) if choice_told(one, lot) != choice_told(other, lot))
            self.assertEqual(self.compared(kinds, one, other)[1], wanted)
            unlike += wanted != ()
        self.assertTrue(50 < unlike < 290, unlike)

    def test_by_name(self):
        named = {"other": ROWS, "one": TREE, "kinds": example()}
        self.assertEqual(self.ask(first_unlike, **named), (0, 1, 2, 3))
        self.assertIs(self.ask(alike, **named), False)
        self.assertEqual(self.ask(parts_at, **named), ((0, 1, 2, 3), (0, 1, 2)))
        self.assertEqual(self.ask(first_part, **named), (((), 3), (7, 5)))


class TestPoint2b(Asking):
    def parted(self, kinds, one, other):
        """Whether an extension of at most two new kinds has a member of whose lot they tell unlike answers."""
        for extension in all_extensions(kinds, 2):
            for number in members(kinds, extension):
                lot = lot_of(kinds, extension, number)
                if answer(one, lot) != answer(other, lot):
                    return True
        return False

    def test_alike_exactly_if_no_extension_parts_them(self):
        draw = Draw(12)
        for several in (True, False):
            for kinds in small_kinds(3, several)[::2]:
                one, other = draw.choice(kinds), draw.choice(kinds)
                self.assertIs(alike(kinds, one, other), not self.parted(kinds, one, other))

    def test_drawn_extensions(self):
        for kinds, draw in drawn(13, 200):
            one, other = draw.choice(kinds), draw.choice(kinds)
            extension = draw.extension(kinds, 4)
            for number in members(kinds, extension):
                lot = lot_of(kinds, extension, number)
                if answer(one, lot) != answer(other, lot):
                    self.assertIs(alike(kinds, one, other), False)
                    self.assertIn(lot, parts_at(kinds, one, other))

    def test_the_witness_shows_it(self):
        for kinds, draw in drawn(14, 200):
            one, other = draw.choice(kinds), draw.choice(kinds)
            if not alike(kinds, one, other):
                (extension, number), told = first_part(kinds, one, other)
                lot = lot_of(kinds, extension, number)
                self.assertIn(number, members(kinds, extension))
                self.assertEqual((answer(one, lot), answer(other, lot)), told)
                self.assertNotEqual(*told)


class TestExamplesOfPoint9(unittest.TestCase):
    def test_examples(self):
        self.assertEqual(
            (first_unlike(example(), TREE, ROWS), first_part(example(), TREE, ROWS)),
            ((0, 1, 2, 3), (((), 3), (7, 5))))


if __name__ == "__main__":
    unittest.main()
