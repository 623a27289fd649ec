"""Point 6, lots, witness and is_lot, and point 2 (a)."""

import itertools
import unittest

from drawing import drawn
from kindstocome.hierarchies import Kinds
from kindstocome.lots import is_extension, is_lot, lot_of, lots, members, witness
from oracles import all_extensions, elder_sets, small_kinds, tried_lots, tried_witness
from samples import Asking, any_values, example, hierarchies, subsets, variants

KNOWN = [
    # hollow and closed kinds among others
    (example(), ((0, 1), (0, 1, 2, 3), (0, 2), (0, 4), (0,), (0, 1, 2))),
    # neither hollow nor closed ones: known lots ascending, then by the number of elders, then ascending
    (Kinds(((), (), ()), (), (), True), ((0,), (1,), (2,), (0, 1), (0, 2), (1, 2), (0, 1, 2))),
    (Kinds(((), (), (), (2,)), (), (), True), (
        (0,), (1,), (2,), (2, 3), (0, 1), (0, 2), (0, 2, 3), (1, 2), (1, 2, 3), (0, 1, 2), (0, 1, 2, 3))),
    # the least number of elders goes ahead of the order of lots: (0, 1, 2) takes one, (0, 1) two
    (Kinds(((), (), (0, 1)), (), (0, 1, 2), True), ((0,), (0, 1, 2), (1,), (0, 1))),
    # one elder
    (Kinds(((), (), ()), (), (), False), ((0,), (1,), (2,))),
    (Kinds(((), (0,), (0,)), (), (0,), False), ((0, 1), (0, 2), (0,))),
    (Kinds(((), (0,), (0,)), (0,), (0,), False), ((0, 1), (0, 2))),
    # all kinds hollow
    (Kinds(((), (0,), (0,)), (), (0, 1, 2), True), ((0,), (0, 1), (0, 2), (0, 1, 2))),
    (Kinds(((), (0,), (0,)), (), (0, 1, 2), False), ((0,), (0, 1), (0, 2))),
    (Kinds(((), (0,), (0,)), (0,), (0, 1, 2), True), ((0, 1), (0, 2), (0, 1, 2))),
    (Kinds(((), (0,), (0,)), (1, 2), (0, 1, 2), True), ((0,),)),
    # all kinds closed
    (Kinds(((), (0,), (0,)), (0, 1, 2), (), True), ((0,), (0, 1), (0, 2))),
    (Kinds(((), (0,), (0,)), (0, 1, 2), (0, 2), True), ((0, 1),)),
    # all both
    (Kinds(((), (0,), (0,)), (0, 1, 2), (0, 1, 2), True), ()),
    (Kinds(((), (0,), (0,)), (0, 1, 2), (0, 1, 2), False), ()),
    # one kind
    (Kinds(((),), (), (), True), ((0,),)),
    (Kinds(((),), (0,), (), False), ((0,),)),
    (Kinds(((),), (), (0,), False), ((0,),)),
    (Kinds(((),), (0,), (0,), True), ()),
]

EVERY = (0, 1, 2, 3, 4, 5)

SIX = [
    Kinds(((),) * 6, (), (), True),
    Kinds(((),) * 6, (), EVERY, True),
    Kinds(((),) * 6, (1, 4), (0, 1), True),
    Kinds(((),) * 6, (), (), False),
    Kinds(((), (0,), (1,), (2,), (3,), (4,)), (2,), (0, 5), True),
    Kinds(((), (0,), (1,), (2,), (3,), (4,)), (), EVERY, False),
    Kinds(((), (), (0, 1), (0, 1), (2, 3), (1,)), (3,), (0, 1, 2), True),
    Kinds(((), (0,), (0,), (1, 2), (0,), (1, 4)), (4,), (0,), True),
    Kinds(((), (0,), (0,), (0,), (1, 2), (2, 3)), EVERY, (0,), True),
    Kinds(((), (0,), (0,), (0,), (1, 2), (2, 3)), EVERY, EVERY, True),
]


class TestLots(Asking):
    def test_known_ones(self):
        for kinds, wanted in KNOWN:
            self.assertEqual(self.ask(lots, kinds), wanted)

    def test_six_kinds(self):
        for kinds in SIX:
            self.assertEqual(self.ask(lots, kinds), tried_lots(kinds))
        self.assertEqual(len(lots(SIX[0])), 63)
        self.assertEqual(lots(SIX[1]), tuple(sorted(subsets(EVERY), key=lambda lot: (len(lot), lot))[1:]))
        self.assertEqual(lots(SIX[9]), ())

    def test_all_small_ones(self):
        for many, several in itertools.product((1, 2, 3), (True, False)):
            for kinds in small_kinds(many, several):
                self.assertEqual(self.ask(lots, kinds), tried_lots(kinds))

    def test_some_of_four_to_six_kinds(self):
        for many, step in ((4, 1), (5, 31), (6, 331)):
            for at, elders in enumerate(hierarchies(many)[::step]):
                closed, hollow = subsets(range(many))[at % 2 ** many], subsets(range(many))[at * 7 % 2 ** many]
                kinds = Kinds(elders, closed, hollow, True)
                self.assertEqual(self.ask(lots, kinds), tried_lots(kinds))

    def test_drawn_ones(self):
        for kinds, draw in drawn(2, 300):
            self.assertEqual(self.ask(lots, kinds), tried_lots(kinds))

    def test_by_name(self):
        self.assertEqual(self.ask(lots, kinds=example()), lots(example()))


class TestWitness(Asking):
    def test_of_each_lot(self):
        for kinds in [kinds for kinds, wanted in KNOWN] + SIX:
            for lot in lots(kinds):
                self.assertEqual(self.ask(witness, kinds, lot), tried_witness(kinds, lot))

    def test_a_known_kind_ahead_of_a_new_one(self):
        self.assertEqual(self.ask(witness, example(), (0, 1, 2, 3)), ((), 3))
        self.assertEqual(self.ask(witness, example(), (0, 1)), ((), 1))
        for kind in range(4):
            chain = Kinds(((), (0,), (1,), (2,)), (), (), True)
            self.assertEqual(self.ask(witness, chain, chain.above(kind)), ((), kind))

    def test_no_hollow_kind(self):
        self.assertEqual(self.ask(witness, example(), (0,)), (((0,),), 5))
        every = Kinds(((), (0,), (1,)), (), (0, 1, 2), True)
        self.assertEqual(self.ask(witness, every, (0, 1)), (((1,),), 3))
        self.assertEqual(self.ask(witness, every, (0, 1, 2)), (((2,),), 3))

    def test_the_fewest_elders(self):
        apart = Kinds(((), (), (), (0, 1)), (), (3,), True)
        self.assertEqual(self.ask(witness, apart, (0, 1, 3)), (((3,),), 4))
        self.assertEqual(self.ask(witness, apart, (0, 1)), (((0, 1),), 4))
        self.assertEqual(self.ask(witness, apart, (0, 1, 2)), (((0, 1, 2),), 4))
        self.assertEqual(self.ask(witness, apart, (0, 1, 2, 3)), (((2, 3),), 4))

    def test_no_elder_that_another_one_brings(self):
        # The kinds of a lot with no other of its kinds under them have to be elders, and are enough:
        # so just one tuple has the fewest, though many make the lot.
        kinds = Kinds(((), (), (0, 1), (0,), (1,)), (), (), True)
        self.assertEqual(self.ask(witness, kinds, (0, 1, 3)), (((1, 3),), 5))
        self.assertEqual(self.ask(witness, kinds, (0, 1, 3, 4)), (((3, 4),), 5))
        self.assertEqual(self.ask(witness, kinds, (0, 1, 2, 3)), (((2, 3),), 5))
        crossed = Kinds(((), (), (), (0, 1), (1, 2), (0, 2)), (), EVERY, True)
        self.assertEqual(self.ask(witness, crossed, (0, 1, 2, 3)), (((2, 3),), 6))
        self.assertEqual(self.ask(witness, crossed, (0, 1, 2, 3, 4)), (((3, 4),), 6))
        self.assertEqual(self.ask(witness, crossed.closing((2,)), EVERY), (((3, 4, 5),), 6))

    def test_the_first_of_all_tuples_of_the_fewest_elders(self):
        for kinds in [kinds for kinds, wanted in KNOWN] + SIX:
            for lot in lots(kinds):
                extension, number = self.ask(witness, kinds, lot)
                making = [own for own in elder_sets(kinds) if lot_of(kinds, (own,), len(kinds)) == lot]
                if extension:
                    self.assertEqual(extension[0], min(making, key=lambda own: (len(own), own)))

    def test_none(self):
        for lot in ((), (1,), (0, 1, 4), (0, 4, 3), (1, 0), (0, 3), (0, 1, 3), (0, 1, 2, 3, 4), (0, 0)):
            self.assertIsNone(self.ask(witness, example(), lot))
        for kinds in (Kinds(((),), (0,), (0,), True), Kinds(((), ()), (0, 1), (0, 1), False)):
            self.assertIsNone(self.ask(witness, kinds, (0,)))
            self.assertIsNone(self.ask(witness, kinds, ()))

    def test_all_tuples_of_small_kinds(self):
        for several in (True, False):
            for kinds in small_kinds(3, several):
                for lot in subsets(range(3)):
                    self.assertEqual(self.ask(witness, kinds, lot), tried_witness(kinds, lot))

    def test_drawn_ones(self):
        for kinds, draw in drawn(3, 60):
            for lot in subsets(range(len(kinds))):
                self.assertEqual(self.ask(witness, kinds, lot), tried_witness(kinds, lot))

    def test_by_name(self):
        self.assertEqual(self.ask(witness, lot=(0, 1, 2), kinds=example()), (((1, 2),), 5))


class TestIsLot(Asking):
    def test_exactly_for_lots(self):
        for kinds in [kinds for kinds, wanted in KNOWN] + SIX:
            right = lots(kinds)
            for lot in subsets(range(len(kinds) + 1)):
                self.is_so(is_lot, kinds, lot, lot in right)

    def test_no_ascending_tuples(self):
        for value in ((1, 0), (0, 0), (0, 1, 1), (0, 2, 1), (-1, 0), (0, 5), (0, 10 ** 39)):
            self.is_so(is_lot, example(), value, False)

    def test_lists_and_bools(self):
        for value in ([0], [0, 1], [(0,)], ((0,),), (False,), (0, True), (False, 1), (False, True), True, False, 0):
            self.is_so(is_lot, example(), value, False)
        for value in ((True,), (False, True), (0, True), (False,)):
            self.is_so(is_lot, Kinds(((), ()), (), (), True), value, False)

    def test_any_value(self):
        for kinds in (example(), Kinds(((),), (), (), True), Kinds(((),), (0,), (0,), True), SIX[0]):
            right = [(tuple, int, lot) for lot in lots(kinds)]
            for value in any_values() + variants((0, 1, 2)) + [(value,) for value in any_values()]:
                ints = type(value) is tuple and value != () and all(type(item) is int for item in value)
                self.is_so(is_lot, kinds, value, ints and (tuple, int, value) in right)

    def test_by_name(self):
        self.assertIs(self.ask(is_lot, value=(0, 1, 2), kinds=example()), True)


class TestPoint2a(Asking):
    def test_lots_of_members_of_drawn_extensions(self):
        for kinds, draw in drawn(4, 250):
            right = lots(kinds)
            for many in range(5):
                extension = draw.extension(kinds, many)
                self.assertTrue(is_extension(kinds, extension))
                for number in members(kinds, extension):
                    self.assertIn(lot_of(kinds, extension, number), right)

    def test_each_lot_comes_about_by_its_witness(self):
        for kinds, draw in drawn(5, 250):
            for lot in lots(kinds):
                extension, number = witness(kinds, lot)
                self.assertLessEqual(len(extension), 1)
                self.assertTrue(is_extension(kinds, extension))
                self.assertIn(number, members(kinds, extension))
                self.assertEqual(lot_of(kinds, extension, number), lot)

    def test_all_extensions_of_two_new_kinds(self):
        for many, several in itertools.product((1, 2, 3), (True, False)):
            for kinds in small_kinds(many, several)[::3]:
                found = set()
                for extension in all_extensions(kinds, 2):
                    found |= {lot_of(kinds, extension, number) for number in members(kinds, extension)}
                self.assertEqual(found, set(lots(kinds)))


class TestExamplesOfPoint6(unittest.TestCase):
    def test_examples(self):
        kinds = example()
        self.assertEqual(lots(kinds), ((0, 1), (0, 1, 2, 3), (0, 2), (0, 4), (0,), (0, 1, 2)))
        self.assertEqual(
            (witness(kinds, (0, 1, 2)), witness(kinds, (0, 4)), witness(kinds, (0, 1, 4))),
            ((((1, 2),), 5), ((), 4), None))
        self.assertEqual(lot_of(kinds, ((1,), (2, 5)), 6), (0, 1, 2))


if __name__ == "__main__":
    unittest.main()
