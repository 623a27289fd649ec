"""reached of point 10, point 11, first_clash, spare and fewest_rows, and point 2 (e)."""

import itertools
import unittest

from drawing import drawn
from kindstocome.comparing import alike, fewest_rows, first_clash, reached, spare
from kindstocome.hierarchies import Kinds
from oracles import rows_told, tried_lots
from samples import Asking, ROWS, example

NO_LOTS = Kinds(((), (0,)), (0, 1), (0, 1), True)


def row(number, *needs):
    """A row with this answer, for needs of True alone."""
    return (tuple((kind, True) for kind in needs), number)


def lacking(number, *needs):
    """A row with this answer, for needs of False alone."""
    return (tuple((kind, False) for kind in needs), number)


def told_of_all(kinds, rows):
    return [rows_told(rows, lot) for lot in tried_lots(kinds)]


def holds(needs, lot):
    return all((kind in lot) is wished for kind, wished in needs)


def tried_reached(kinds, rows):
    found = set()
    for lot in tried_lots(kinds):
        found |= set([at for at, (needs, number) in enumerate(rows) if holds(needs, lot)][:1])
    return tuple(sorted(found))


def tried_clash(kinds, rows):
    for low, high in itertools.combinations(range(len(rows)), 2):
        for lot in tried_lots(kinds):
            both = holds(rows[low][0], lot) and holds(rows[high][0], lot)
            if both and rows[low][1] != rows[high][1]:
                return (low, high)
    return None


def tried_fewest(kinds, rows):
    for many in range(len(rows) + 1):
        for some in itertools.combinations(range(len(rows)), many):
            if told_of_all(kinds, [rows[at] for at in some]) == told_of_all(kinds, rows):
                return some


def tried_spare(kinds, rows):
    every = told_of_all(kinds, rows)
    return tuple(at for at in range(len(rows)) if told_of_all(kinds, rows[:at] + rows[at + 1:]) == every)


class TestReached(Asking):
    def reach(self, kinds, rows):
        told = self.ask(reached, kinds, rows)
        self.assertEqual(told, tried_reached(kinds, rows))
        return told

    def test_all_and_none(self):
        self.assertEqual(self.reach(example(), ROWS), (0, 1))
        self.assertEqual(self.reach(example(), ()), ())
        self.assertEqual(self.reach(example(), (row(1, 1, 4),)), ())

    def test_rows_put_in_twice(self):
        self.assertEqual(self.reach(example(), ROWS + ROWS), (0, 1))
        self.assertEqual(self.reach(example(), (row(0), row(0), row(1))), (0,))

    def test_rows_never_reached(self):
        self.assertEqual(self.reach(example(), (row(1, 1), row(2, 3), row(3, 2), row(4, 0), row(5))), (0, 2, 3))
        self.assertEqual(self.reach(example(), (row(1, 1, 4), row(2, 4), lacking(3, 0), lacking(4, 1))), (1, 3))

    def test_by_what_is_closed(self):
        rows = (row(1, 3), row(2, 1, 2), row(3, 1))
        self.assertEqual(self.reach(example(), rows), (0, 1, 2))
        self.assertEqual(self.reach(example().closing((2,)), rows), (0, 2))

    def test_kinds_without_lots(self):
        for rows in ((), (row(1),), (row(1), row(2, 0), lacking(3, 1))):
            self.assertEqual(self.reach(NO_LOTS, rows), ())

    def test_drawn_ones(self):
        for kinds, draw in drawn(18, 200):
            self.reach(kinds, draw.rows(kinds, draw.below(7)))

    def test_by_name(self):
        self.assertEqual(self.ask(reached, rows=ROWS, kinds=example()), (0, 1))


class TestFirstClash(Asking):
    def clash(self, kinds, rows):
        told = self.ask(first_clash, kinds, rows)
        self.assertEqual(told, tried_clash(kinds, rows))
        return told

    def test_two_rows(self):
        self.assertEqual(self.clash(example(), ROWS), (0, 1))
        self.assertIsNone(self.clash(example(), (row(5, 1), row(5, 2))))
        self.assertIsNone(self.clash(example(), (row(5, 1), row(6, 4))))
        self.assertIsNone(self.clash(example(), (row(5, 1), lacking(6, 1))))
        self.assertEqual(self.clash(example(), (row(0), row(1))), (0, 1))

    def test_no_rows_and_one(self):
        self.assertIsNone(self.clash(example(), ()))
        self.assertIsNone(self.clash(example(), (row(5),)))

    def test_the_first_pair(self):
        self.assertEqual(self.clash(example(), (row(5, 4), row(5, 1), row(6, 2), row(7, 3))), (1, 2))
        self.assertEqual(self.clash(example(), (row(5, 4), row(5, 1), row(6, 3), row(7, 0))), (0, 3))
        self.assertEqual(self.clash(example(), (row(7, 4), row(5, 1), row(5, 3), row(6, 2))), (1, 3))

    def test_a_row_that_is_never_reached_can_clash(self):
        self.assertEqual(self.clash(example(), (row(5, 0), row(5), row(6, 1))), (0, 2))

    def test_rows_put_in_twice(self):
        self.assertIsNone(self.clash(example(), (row(5, 1), row(5, 1))))
        self.assertEqual(self.clash(example(), (row(5, 1), row(5, 1), row(6, 1))), (0, 2))

    def test_by_what_is_closed(self):
        apart = Kinds(((), (0,), (0,)), (), (), True)
        self.assertEqual(self.clash(apart, ROWS), (0, 1))
        self.assertIsNone(self.clash(apart.closing((1,)), ROWS))
        self.assertIsNone(self.clash(Kinds(((), (0,), (0,)), (), (), False), ROWS))
        self.assertEqual(self.clash(example().closing((1,)), ROWS), (0, 1))

    def test_kinds_without_lots(self):
        for rows in ((), (row(1),), (row(1), row(2)), (row(1), row(2, 0), lacking(3, 1))):
            self.assertIsNone(self.clash(NO_LOTS, rows))

    def test_drawn_ones(self):
        for kinds, draw in drawn(19, 200):
            self.clash(kinds, draw.rows(kinds, draw.below(7)))

    def test_by_name(self):
        self.assertEqual(self.ask(first_clash, rows=ROWS, kinds=example()), (0, 1))


class TestPoint2e(Asking):
    def test_all_orders_of_up_to_four_rows(self):
        clashing = 0
        for kinds, draw in drawn(20, 250):
            rows = draw.rows(kinds, draw.below(5))
            every = told_of_all(kinds, rows)
            same = all(told_of_all(kinds, order) == every for order in itertools.permutations(rows))
            self.assertIs(self.ask(first_clash, kinds, rows) is None, same)
            clashing += not same
        self.assertTrue(50 < clashing < 200, clashing)

    def test_orders_of_known_rows(self):
        for kinds in (example(), example().closing((1, 2)), NO_LOTS):
            for rows in (ROWS, ROWS + (row(7, 3),), (row(5, 1), row(6, 4), lacking(7, 0), row(5, 3))):
                same = [alike(kinds, order, rows) for order in itertools.permutations(rows)]
                self.assertIs(first_clash(kinds, rows) is None, all(same))


class TestSpare(Asking):
    def spared(self, kinds, rows):
        told = self.ask(spare, kinds, rows)
        self.assertEqual(told, tried_spare(kinds, rows))
        return told

    def test_rows_that_are_needed(self):
        self.assertEqual(self.spared(example(), ROWS), ())
        self.assertEqual(self.spared(example(), ()), ())

    def test_rows_put_in_twice(self):
        self.assertEqual(self.spared(example(), ROWS + ROWS), (1, 2, 3))
        self.assertEqual(self.spared(example(), (row(5, 1), row(5, 1))), (0, 1))
        self.assertEqual(self.spared(example(), (row(5, 1), row(6, 2), row(5, 1))), (2,))

    def test_rows_never_reached(self):
        self.assertEqual(self.spared(example(), (row(5, 1), row(7, 3), row(6, 2))), (1,))
        self.assertEqual(self.spared(example(), (row(5, 1, 4), row(6, 2))), (0,))

    def test_rows_with_the_answer_of_no_row(self):
        self.assertEqual(self.spared(example(), (row(0, 4),)), (0,))
        self.assertEqual(self.spared(example(), (row(0, 4), row(5, 0))), ())
        self.assertEqual(self.spared(example(), (row(5, 1), row(0))), (1,))

    def test_each_by_itself(self):
        self.assertEqual(self.spared(example(), (row(5, 1), row(5, 0), row(5))), (0, 1, 2))

    def test_kinds_without_lots(self):
        self.assertEqual(self.spared(NO_LOTS, (row(1), row(2, 0), lacking(3, 1))), (0, 1, 2))

    def test_drawn_ones(self):
        for kinds, draw in drawn(21, 200):
            self.spared(kinds, draw.rows(kinds, draw.below(7)))

    def test_by_name(self):
        self.assertEqual(self.ask(spare, rows=ROWS + ROWS, kinds=example()), (1, 2, 3))


class TestFewestRows(Asking):
    def fewest(self, kinds, rows):
        told = self.ask(fewest_rows, kinds, rows)
        self.assertEqual(told, tried_fewest(kinds, rows))
        self.assertIs(alike(kinds, tuple(rows[at] for at in told), rows), True)
        return told

    def test_rows_that_are_needed(self):
        self.assertEqual(self.fewest(example(), ROWS), (0, 1))
        self.assertEqual(self.fewest(example(), ()), ())
        self.assertEqual(self.fewest(example(), (row(5),)), (0,))

    def test_rows_put_in_twice(self):
        self.assertEqual(self.fewest(example(), ROWS + ROWS), (0, 1))
        self.assertEqual(self.fewest(example(), (row(5, 1), row(5, 1))), (0,))
        self.assertEqual(self.fewest(example(), (row(6, 2), row(5, 1), row(6, 2))), (0, 1))

    def test_rows_never_reached(self):
        self.assertEqual(self.fewest(example(), (row(5, 1, 4), row(5, 1), row(7, 3), row(6, 2))), (1, 3))
        self.assertEqual(self.fewest(example(), (row(5, 1, 4), row(6, 3, 4))), ())

    def test_fewer_than_by_leaving_out_the_first_spare_ones(self):
        self.assertEqual(self.fewest(example(), (row(5, 1), row(5, 2), row(5, 4), row(5, 0))), (3,))
        self.assertEqual(self.fewest(example(), (row(0, 1), row(0, 2), row(0))), ())

    def test_of_several_the_first(self):
        apart = Kinds(((), ()), (0, 1), (), True)
        self.assertEqual(self.fewest(apart, (row(5, 0), lacking(5, 1), row(6, 1), lacking(6, 0))), (0, 2))
        self.assertEqual(self.fewest(apart, (lacking(5, 1), row(5, 0), row(6))), (0, 2))

    def test_six_rows_and_somewhat_more(self):
        apart = Kinds(((),) * 6, (0, 1, 2, 3, 4, 5), (), True)
        rows = tuple(row(kind + 1, kind) for kind in range(6))
        self.assertEqual(self.fewest(apart, rows), (0, 1, 2, 3, 4, 5))
        self.assertEqual(self.fewest(apart, rows + rows[:2]), (0, 1, 2, 3, 4, 5))

    def test_kinds_without_lots(self):
        self.assertEqual(self.fewest(NO_LOTS, (row(1), row(2, 0), lacking(3, 1))), ())

    def test_drawn_ones(self):
        for kinds, draw in drawn(22, 150):
            self.fewest(kinds, draw.rows(kinds, draw.below(7)))

    def test_by_name(self):
        self.assertEqual(self.ask(fewest_rows, rows=ROWS + ROWS, kinds=example()), (0, 1))


class TestExamplesOfPoint11(unittest.TestCase):
    def test_examples(self):
        kinds = example()
        self.assertEqual(
            (first_clash(kinds, ROWS), first_clash(kinds.closing((1,)), ROWS), reached(kinds, ROWS)),
            ((0, 1), (0, 1), (0, 1)))


if __name__ == "__main__":
    unittest.main()
