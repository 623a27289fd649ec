"""Point 5: is_extension, lot_of and members."""

import unittest

from drawing import drawn
from kindstocome.hierarchies import Kinds
from kindstocome.lots import is_extension, lot_of, members
from oracles import all_extensions, lot_by_climbing, right_extension
from samples import Asking, BIG, any_values, example, variants

SINGLE = Kinds(((), (0,), (1,)), (1,), (), False)


class TestIsExtension(Asking):
    def right(self, kinds, *values):
        for value in values:
            self.is_so(is_extension, kinds, value, True)

    def wrong(self, kinds, *values):
        for value in values:
            self.is_so(is_extension, kinds, value, False)

    def test_right_ones_of_none_to_four_new_kinds(self):
        self.right(example(), (), ((0,),), ((0,), (1,)), ((1, 2), (0, 3), (0, 1, 2, 3)), ((0,), (0,), (0,), (0,)))

    def test_new_kinds_under_new_ones(self):
        self.right(example(), ((0,), (5,)), ((1,), (2, 5), (5, 6), (0, 1, 2, 3, 5, 6, 7)), ((3,), (5,), (6,), (7,)))
        self.right(SINGLE, ((0,), (3,), (4,), (5,)), ((2,), (2,), (3,)))

    def test_five_items(self):
        self.wrong(example(), ((0,),) * 5, ((0,), (5,), (6,), (7,), (8,)), ((0,),) * 3000)
        self.wrong(SINGLE, ((0,),) * 5)

    def test_an_empty_item(self):
        self.wrong(example(), ((),), ((0,), ()), ((), (0,)), ((0,), (1,), (2,), ()))
        self.wrong(SINGLE, ((),), ((0,), ()))

    def test_not_ascending_or_twice(self):
        self.wrong(example(), ((1, 0),), ((0, 0),), ((0, 2, 1),), ((0,), (5, 0)), ((0,), (5, 5)), ((0, 1, 1),))

    def test_a_closed_kind(self):
        self.wrong(example(), ((4,),), ((0, 4),), ((0,), (4,)), ((0,), (4, 5)), ((1, 2, 4),))
        self.wrong(SINGLE, ((1,),), ((0,), (1,)))
        self.wrong(Kinds(((), ()), (0, 1), (), True), ((0,),), ((1,),), ((0, 1),))
        self.right(Kinds(((), ()), (0, 1), (), True), ())

    def test_a_hollow_kind_may_be_an_elder(self):
        self.right(Kinds(((), (0,)), (), (0, 1), True), ((0,),), ((1,),), ((0, 1),))

    def test_itself_or_a_later_number(self):
        self.wrong(example(), ((5,),), ((6,),), ((0, 5),), ((0,), (6,)), ((0,), (7,)), ((0,), (0, 6)), ((BIG,),))
        self.wrong(example(), ((0,), (0,), (0,), (8,)))
        self.right(example(), ((0,), (0,), (0,), (7,)))

    def test_a_negative_number(self):
        self.wrong(example(), ((-1,),), ((-1, 0),), ((0,), (-1,)), ((-5,),), ((-BIG,),))

    def test_true_and_false_are_no_numbers(self):
        self.wrong(example(), ((True,),), ((False,),), ((0, True),), ((False, 1),), ((0,), (True,)), (True,), (False,))

    def test_lists_outside_and_within(self):
        self.wrong(example(), [], [(0,)], [[0]], ([0],), ((0,), [1]), ([],), ((0,), [5]), (((0,),),), ([0], (1,)))

    def test_two_elders_where_several_is_false(self):
        self.wrong(SINGLE, ((0, 2),), ((0,), (0, 3)), ((0,), (2, 3)), ((0,), (2,), (3, 4)))
        self.right(Kinds(((), (0,), (1,)), (1,), (), True), ((0, 2),), ((0,), (0, 3)), ((0,), (2, 3)))

    def test_any_value(self):
        for kinds in (example(), SINGLE, Kinds(((),), (0,), (), True)):
            for value in any_values():
                self.is_so(is_extension, kinds, value, right_extension(kinds, value))
                for inner in ((value,), ((value,),), ((0,), value), ((0,), (0, value))):
                    self.is_so(is_extension, kinds, inner, right_extension(kinds, inner))

    def test_right_ones_with_one_part_changed(self):
        for kinds, value in ((example(), ((1,), (2, 5), (0, 6))), (SINGLE, ((0,), (3,))), (SINGLE, ((2,),) * 4)):
            for changed in variants(value):
                self.is_so(is_extension, kinds, changed, right_extension(kinds, changed))

    def test_all_of_at_most_two_new_kinds(self):
        for kinds in (example(), SINGLE):
            for value in all_extensions(kinds, 2):
                self.right(kinds, value)

    def test_by_name(self):
        self.assertIs(self.ask(is_extension, value=((1, 2),), kinds=example()), True)
        self.assertIs(self.ask(is_extension, kinds=example(), value=[(1, 2)]), False)

    def test_the_value_stays_as_it_is(self):
        value = [[1, 0], (0,), {"a": [1]}]
        self.is_so(is_extension, example(), value, False)
        self.is_so(is_extension, example(), (value,), False)
        self.assertEqual(value, [[1, 0], (0,), {"a": [1]}])


class TestLotOf(Asking):
    def test_known_kinds(self):
        for kind, lot in enumerate([(0,), (0, 1), (0, 2), (0, 1, 2, 3), (0, 4)]):
            self.assertEqual(self.ask(lot_of, example(), (), kind), lot)
            self.assertEqual(self.ask(lot_of, example(), ((1,), (2, 5)), kind), lot)

    def test_new_kinds(self):
        extension = ((1,), (2, 5), (5,), (0, 3))
        lots = [self.ask(lot_of, example(), extension, number) for number in range(5, 9)]
        self.assertEqual(lots, [(0, 1), (0, 1, 2), (0, 1), (0, 1, 2, 3)])

    def test_without_the_new_kinds(self):
        apart = Kinds(((), (), ()), (), (), True)
        self.assertEqual(self.ask(lot_of, apart, ((2,), (3,), (0, 4), (5,)), 6), (0, 2))

    def test_the_order_of_elders_does_not_show(self):
        kinds = Kinds(((), (), (0,), (1,)), (), (), True)
        self.assertEqual(self.ask(lot_of, kinds, ((1, 2),), 4), (0, 1, 2))
        self.assertEqual(self.ask(lot_of, kinds, ((2, 3),), 4), (0, 1, 2, 3))

    def test_hollow_and_closed_kinds(self):
        kinds = Kinds(((), (0,), (0, 1)), (1,), (0, 2), True)
        self.assertEqual([self.ask(lot_of, kinds, (), kind) for kind in range(3)], [(0,), (0, 1), (0, 1, 2)])
        self.assertEqual(self.ask(lot_of, kinds, ((2,),), 3), (0, 1, 2))
        self.assertEqual(self.ask(lot_of, kinds, ((0,), (3,)), 4), (0,))

    def test_by_climbing(self):
        for kinds, draw in drawn(1, 150):
            extension = draw.extension(kinds, draw.below(5))
            for number in range(len(kinds) + len(extension)):
                lot = self.ask(lot_of, kinds, extension, number)
                self.assertEqual(lot, lot_by_climbing(kinds, extension, number))

    def test_by_name(self):
        self.assertEqual(self.ask(lot_of, number=6, extension=((1,), (2, 5)), kinds=example()), (0, 1, 2))

    def test_somewhat_more_new_kinds(self):
        self.assertEqual(self.ask(lot_of, example(), ((1,), (5,), (6,), (7,), (2, 8), (9,)), 10), (0, 1, 2))

    def test_example_of_point_6(self):
        self.assertEqual(lot_of(example(), ((1,), (2, 5)), 6), (0, 1, 2))


class TestMembers(Asking):
    def test_without_new_kinds(self):
        self.assertEqual(self.ask(members, example(), ()), (1, 2, 3, 4))
        self.assertEqual(self.ask(members, SINGLE, ()), (0, 1, 2))

    def test_with_new_kinds(self):
        self.assertEqual(self.ask(members, example(), ((1,), (2, 5))), (1, 2, 3, 4, 5, 6))
        self.assertEqual(self.ask(members, example(), ((0,),) * 4), (1, 2, 3, 4, 5, 6, 7, 8))

    def test_hollow_and_closed_kinds(self):
        every = Kinds(((), (0,), ()), (), (0, 1, 2), True)
        self.assertEqual(self.ask(members, every, ()), ())
        self.assertEqual(self.ask(members, every, ((0,), (1, 3))), (3, 4))
        self.assertEqual(self.ask(members, Kinds(((), ()), (0, 1), (1,), True), ()), (0,))

    def test_by_name(self):
        self.assertEqual(self.ask(members, extension=((1,),), kinds=example()), (1, 2, 3, 4, 5))

    def test_somewhat_more_new_kinds(self):
        self.assertEqual(self.ask(members, SINGLE, ((0,),) * 6), tuple(range(9)))


if __name__ == "__main__":
    unittest.main()
