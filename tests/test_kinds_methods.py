import itertools
import unittest

from kindstocome.hierarchies import Kinds
from oracles import climb
from samples import any_values, example, hierarchies, kinds_told as told, subsets


def flat(value):
    """Whether value is a tuple of integers, of no bools and no lists."""
    return type(value) is tuple and all(type(item) is int for item in value)


class TestAsking(unittest.TestCase):
    def test_above(self):
        kinds = example()
        self.assertEqual([kinds.above(kind) for kind in range(5)], [(0,), (0, 1), (0, 2), (0, 1, 2, 3), (0, 4)])

    def test_above_of_a_chain_and_of_kinds_apart(self):
        chain = Kinds(((), (0,), (1,), (2,), (3,), (4,)), (), (), False)
        self.assertEqual(chain.above(5), (0, 1, 2, 3, 4, 5))
        self.assertEqual(chain.above(2), (0, 1, 2))
        apart = Kinds(((), (), (), (1,)), (), (), False)
        self.assertEqual([apart.above(kind) for kind in range(4)], [(0,), (1,), (2,), (1, 3)])

    def test_all_hierarchies_of_at_most_four(self):
        for many in (1, 2, 3, 4):
            for elders in hierarchies(many):
                self.compare(Kinds(elders, (), (), True), elders, many)

    def test_some_hierarchies_of_six(self):
        for elders in hierarchies(6)[::97]:
            self.compare(Kinds(elders, (), (), True), elders, 6)

    def compare(self, kinds, elders, many):
        for one in range(many):
            above = kinds.above(one)
            self.assertEqual(above, tuple(sorted(climb(elders, one))))
            self.assertEqual(kinds.heirs(one), tuple(heir for heir in range(many) if one in elders[heir]))
            for other in range(many):
                self.assertIs(kinds.is_under(one, other), other in climb(elders, one))

    def test_is_under(self):
        kinds = example()
        self.assertIs(kinds.is_under(3, 0), True)
        self.assertIs(kinds.is_under(0, 3), False)
        self.assertIs(kinds.is_under(3, 3), True)
        self.assertIs(kinds.is_under(3, 4), False)
        self.assertIs(kinds.is_under(1, 2), False)

    def test_heirs_are_those_directly_under(self):
        kinds = example()
        self.assertEqual([kinds.heirs(kind) for kind in range(5)], [(1, 2, 4), (3,), (3,), (), ()])

    def test_opened(self):
        self.assertEqual(example().opened(), (0, 1, 2, 3))
        for closed in subsets(range(4)):
            kinds = Kinds(((), (0,), (0,), (0,)), closed, (1,), False)
            self.assertEqual(kinds.opened(), tuple(kind for kind in range(4) if kind not in closed))

    def test_tuples_of_integers(self):
        kinds = example()
        for value in (kinds.above(3), kinds.heirs(0), kinds.heirs(4), kinds.opened()):
            self.assertTrue(flat(value))
        for value in (kinds.closing((1, 0)).closed, kinds.opening((4,)).closed):
            self.assertTrue(flat(value))

    def test_by_name(self):
        kinds = example()
        self.assertEqual(kinds.above(kind=1), (0, 1))
        self.assertIs(kinds.is_under(one=1, other=0), True)
        self.assertIs(kinds.is_under(other=1, one=0), False)
        self.assertEqual(kinds.heirs(kind=1), (3,))
        self.assertEqual(kinds.closing(some=(1,)).closed, (1, 4))
        self.assertEqual(kinds.opening(some=(4,)).closed, ())

    def test_nothing_is_changed_by_asking(self):
        kinds = example()
        for again in range(2):
            kinds.above(3), kinds.is_under(3, 1), kinds.heirs(0), kinds.opened()
            kinds.closing((0, 1)), kinds.opening((4,)), len(kinds), str(kinds), kinds == example()
            self.assertEqual(told(kinds), told(example()))
            self.assertEqual(kinds.above(3), (0, 1, 2, 3))
            self.assertEqual(kinds.opened(), (0, 1, 2, 3))


class TestClosingAndOpening(unittest.TestCase):
    def test_closing(self):
        kinds = example()
        for some, closed in (((), (4,)), ((0,), (0, 4)), ((4,), (4,)), ((3, 1), (1, 3, 4)), ((1, 1, 1), (1, 4)),
                             ((4, 2, 4, 2), (2, 4)), ((4, 3, 2, 1, 0), (0, 1, 2, 3, 4))):
            self.assertEqual(told(kinds.closing(some)), (kinds.elders, closed, kinds.hollow, kinds.several), some)
            self.assertEqual(told(kinds), told(example()))

    def test_opening(self):
        kinds = example().closing((1, 2))
        for some, closed in (((), (1, 2, 4)), ((1,), (2, 4)), ((0,), (1, 2, 4)), ((4, 1), (2,)), ((2, 2), (1, 4)),
                             ((3, 4, 0, 4), (1, 2)), ((4, 3, 2, 1, 0), ())):
            self.assertEqual(told(kinds.opening(some)), (kinds.elders, closed, kinds.hollow, kinds.several), some)
            self.assertEqual(kinds.closed, (1, 2, 4))

    def test_all_of_three_kinds(self):
        for closed, some in itertools.product(subsets(range(3)), itertools.product(range(3), repeat=3)):
            kinds = Kinds(((), (0,), (0, 1)), closed, (1,), True)
            self.assertEqual(kinds.closing(some).closed, tuple(sorted({*closed, *some})))
            self.assertEqual(kinds.opening(some).closed, tuple(sorted({*closed} - {*some})))

    def test_other_parts_stay(self):
        single = Kinds(((), (0,), (1,)), (), (0, 2), False)
        for kinds in (single.closing((2, 1)), single.opening((0,)), single.closing(())):
            self.assertIs(type(kinds), Kinds)
            self.assertEqual((kinds.elders, kinds.hollow), (single.elders, single.hollow))
            self.assertIs(kinds.several, False)

    def test_there_and_back(self):
        kinds = example()
        self.assertEqual(kinds.closing((1, 2)).opening((2, 1)), kinds)
        self.assertEqual(kinds.opening((4,)).closing((4,)), kinds)


class TestLenEqualAndStr(unittest.TestCase):
    def test_len(self):
        for many in range(1, 7):
            self.assertEqual(len(Kinds(((),) * many, (), (), False)), many)
        self.assertEqual(len(example()), 5)

    def equal(self, one, other, wanted):
        self.assertIs(one == other, wanted)
        self.assertIs(one != other, not wanted)
        self.assertIs(other == one, wanted)
        self.assertIs(other != one, not wanted)

    def test_equal_properties(self):
        self.equal(example(), example(), True)
        kinds = example()
        self.equal(kinds, kinds, True)
        self.equal(Kinds(((),), (), (), False), Kinds(((),), (), (), False), True)

    def test_each_property_counts(self):
        base = Kinds(((), (0,), (0,)), (1,), (0,), True)
        for parts in ((((), (0,), (1,)), (1,), (0,), True), (((), (0,)), (1,), (0,), True),
                      (((), (0,), (0,)), (), (0,), True), (((), (0,), (0,)), (2,), (0,), True),
                      (((), (0,), (0,)), (1,), (), True), (((), (0,), (0,)), (1,), (1,), True),
                      (((), (0,), (0,)), (1,), (0,), False), (((), (0,), (0,), ()), (1,), (0,), True)):
            self.equal(base, Kinds(*parts), False)

    def test_other_values(self):
        for value in any_values():
            if not isinstance(value, Kinds):
                self.equal(example(), value, False)
        self.equal(example(), told(example()), False)
        self.equal(example(), len(example()), False)
        self.equal(example(), str(example()), False)

    def test_as_an_item(self):
        self.assertIn(example(), [0, example()])
        self.assertEqual((example(), 1), (example(), 1))
        self.assertNotEqual((example(), 1), (example().closing((0,)), 1))

    def test_str(self):
        self.assertEqual(str(example()), "5 kinds, 1 closed, 1 hollow, several elders")
        self.assertEqual(str(Kinds(((),), (), (), False)), "1 kinds, 0 closed, 0 hollow, one elder")
        six = Kinds(((),) * 6, (0, 1, 2, 3, 4, 5), (1, 3), False)
        self.assertEqual(str(six), "6 kinds, 6 closed, 2 hollow, one elder")
        self.assertEqual(str(Kinds(((), ()), (), (0, 1), True)), "2 kinds, 0 closed, 2 hollow, several elders")


class TestExamplesOfPoint4(unittest.TestCase):
    def test_examples(self):
        kinds = example()
        self.assertEqual(
            (kinds.above(3), kinds.heirs(0), kinds.opened()), ((0, 1, 2, 3), (1, 2, 4), (0, 1, 2, 3)))
        self.assertEqual(str(kinds.closing((0,))), "5 kinds, 2 closed, 1 hollow, several elders")


if __name__ == "__main__":
    unittest.main()
