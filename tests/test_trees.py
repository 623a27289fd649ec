"""Point 16: the fewest tests, the least depth, first tests and smallest trees; and point 2 (c)."""

import itertools
import time
import unittest

from drawing import Draw, drawn
from kindstocome.choices import depth, is_tree, tests
from kindstocome.comparing import alike, trimmed
from kindstocome.errors import KindError, TooMany
from kindstocome.hierarchies import Kinds
from kindstocome.lots import lots
from kindstocome.trees import fewest_tests, first_tests, least_depth, smallest
from oracles import choice_told, small_kinds, tried_lots
from samples import Asking, ROWS, TREE, example, subsets

ONE = Kinds(((),), (), (), True)
NO_LOTS = Kinds(((), (0,)), (0, 1), (0, 1), True)
APART = Kinds(((),) * 6, (), (), True)


def row(number, *needs):
    return (tuple((kind, True) for kind in needs), number)


# Rows of six kinds without elders that take more than twelve tests.
WIDE = (row(1, 0, 1, 2), row(2, 3, 4, 5), row(3, 0, 3), row(4, 1, 4), row(5, 2, 5), row(6, 0, 4))
FEWER_NEEDS = (row(1, 0, 1), row(2, 2, 3), row(3, 4, 5), row(0, 0, 2), row(4, 0))


def tables(kinds, choice):
    """The answers of all lots, and for each kind which lots have it."""
    every = tried_lots(kinds)
    wanted = tuple(choice_told(choice, lot) for lot in every)
    return wanted, [tuple(kind in lot for lot in every) for kind in range(len(kinds.elders))]


def joined(has, yes, no):
    """The answers of the tree that tests the kind that just these lots have, with these sides."""
    return tuple(one if own else other for own, one, other in zip(has, yes, no))


def grown_fewest(kinds, choice):
    """The fewest tests and the first tests, by growing all that trees of 0, 1, 2 .. tests can answer."""
    wanted, has = tables(kinds, choice)
    levels = [{(number,) * len(wanted) for number in set(wanted) or {0}}]
    while wanted not in levels[-1]:
        many = len(levels)
        found = set()
        for left, own in itertools.product(range(many), has):
            found |= {joined(own, yes, no) for yes in levels[left] for no in levels[many - 1 - left]}
        levels.append(found)
    many = len(levels) - 1
    firsts = set()
    for left, kind in itertools.product(range(many), range(len(has))):
        for yes, no in itertools.product(levels[left], levels[many - 1 - left]):
            if joined(has[kind], yes, no) == wanted:
                firsts.add(kind)
    return many, tuple(sorted(firsts))


def grown_depth(kinds, choice):
    """The least depth, by growing all that trees of depth 0, 1, 2 .. can answer."""
    wanted, has = tables(kinds, choice)
    found = {(number,) * len(wanted) for number in set(wanted) or {0}}
    many = 0
    while wanted not in found:
        found = {joined(own, yes, no) for own in has for yes in found for no in found}
        many += 1
    return many


def cubes(kinds, choice, together):
    """For each way to fix some kinds as there, as not there or as free, the least number of a tree for what is left."""
    every = [(lot, choice_told(choice, lot)) for lot in tried_lots(kinds)]
    many = len(kinds.elders)
    found = {}
    for cube in sorted(itertools.product((True, False, None), repeat=many), key=lambda cube: cube.count(None)):
        left = {
            number for lot, number in every
            if all(fixed is None or (kind in lot) is fixed for kind, fixed in enumerate(cube))}
        free = [kind for kind in range(many) if cube[kind] is None]
        found[cube] = 0 if len(left) <= 1 else 1 + min(
            together(*[found[cube[:kind] + (fixed,) + cube[kind + 1:]] for fixed in (True, False)]) for kind in free)
    return found


def cube_fewest(kinds, choice):
    """The fewest tests and the first tests, by all cubes."""
    found = cubes(kinds, choice, lambda one, other: one + other)
    whole = (None,) * len(kinds.elders)
    firsts = []
    for kind in range(len(kinds.elders)):
        sides = [found[whole[:kind] + (fixed,) + whole[kind + 1:]] for fixed in (True, False)]
        if sum(sides) + 1 == found[whole]:
            firsts.append(kind)
    return found[whole], tuple(firsts)


def cube_depth(kinds, choice):
    return cubes(kinds, choice, max)[(None,) * len(kinds.elders)]


class Sizes(Asking):
    """Asks the four functions of a choice, and looks at what they tell together."""

    def sizes(self, kinds, choice):
        """The triple of fewest_tests, least_depth and first_tests; smallest is looked at beside it."""
        many = self.ask(fewest_tests, kinds, choice)
        deep = self.ask(least_depth, kinds, choice)
        firsts = self.ask(first_tests, kinds, choice)
        self.assertEqual((type(many), type(deep), type(firsts)), (int, int, tuple))
        self.assertIs(firsts == (), many == 0)
        self.assertIs(deep == 0, many == 0)
        self.assertLessEqual(deep, many)
        self.look_at_smallest(kinds, choice, many, firsts)
        return many, deep, firsts

    def look_at_smallest(self, kinds, choice, many, firsts):
        if many > 12:
            with self.assertRaises(TooMany) as caught:
                smallest(kinds, choice)
            self.assertEqual(caught.exception.limit, 12)
            return
        tree = self.ask(smallest, kinds, choice)
        self.is_so(is_tree, kinds, tree, True)
        self.assertEqual(tests(tree), many)
        self.assertIs(alike(kinds, tree, choice), True)
        if many > 0:
            self.assertIn(tree[0], firsts)

    def same_in_cubes(self, kinds, choice):
        told = self.sizes(kinds, choice)
        many, firsts = cube_fewest(kinds, choice)
        self.assertEqual(told, (many, cube_depth(kinds, choice), firsts))
        return told

    def same_grown(self, kinds, choice):
        told = self.sizes(kinds, choice)
        many, firsts = grown_fewest(kinds, choice)
        self.assertEqual(told, (many, grown_depth(kinds, choice), firsts))
        return told


class TestKnownOnes(Sizes):
    def test_answers_alone(self):
        for kinds in (example(), ONE, NO_LOTS, APART):
            for number in range(10):
                self.assertEqual(self.same_in_cubes(kinds, number), (0, 0, ()))
        self.assertEqual(smallest(example(), 7), 7)
        self.assertEqual(smallest(example(), (1, 7, 7)), 7)
        self.assertEqual(smallest(example(), ()), 0)

    def test_tests_that_tell_nothing(self):
        self.assertEqual(self.same_in_cubes(example(), (0, 1, 2)), (0, 0, ()))
        self.assertEqual(smallest(example(), (0, 1, 2)), 1)
        self.assertEqual(self.same_in_cubes(example(), (1, (2, 3, 3), 3)), (0, 0, ()))
        self.assertEqual(self.same_in_cubes(example(), (0, TREE, 8)), (3, 2, (1, 2)))
        self.assertEqual(self.same_in_cubes(example(), (1, (1, 5, 8), (1, 8, 6))), (1, 1, (1,)))
        self.assertEqual(smallest(example(), (1, (1, 5, 8), (1, 8, 6))), (1, 5, 6))

    def test_another_order_of_tests(self):
        # Trimming leaves three tests, two are enough.
        tree = (1, (2, 1, 2), (2, 1, 3))
        self.assertEqual(tests(trimmed(example(), tree)), 3)
        self.assertEqual(self.same_in_cubes(example(), tree), (2, 2, (2,)))
        self.assertEqual(smallest(example(), tree), (2, 1, (1, 2, 3)))

    def test_rows(self):
        self.assertEqual(self.same_in_cubes(example(), ROWS), (2, 2, (1,)))
        self.assertEqual(smallest(example(), ROWS), (1, 5, (2, 6, 0)))
        self.assertEqual(self.same_in_cubes(example(), (row(5, 1), row(5, 2), row(5, 4), row(5))), (0, 0, ()))
        self.assertEqual(self.same_in_cubes(example(), (row(4, 3),)), (1, 1, (3,)))
        self.assertEqual(self.same_in_cubes(example(), (row(7, 1, 2), row(7, 3))), (2, 2, (1, 2)))

    def test_fewer_tests_and_less_depth_need_not_be_one_tree(self):
        chain = Kinds(((), (0,), (1,), (2,)), (0, 1, 2, 3), (), True)
        tree = (3, 4, (2, 3, (1, 2, 1)))
        self.assertEqual(depth(tree), 3)
        self.assertEqual(self.same_in_cubes(chain, tree), (3, 2, (1, 2, 3)))

    def test_kinds_without_lots(self):
        for choice in (0, 5, (0, 1, 2), (1, (0, 1, 2), 3), (), (row(1, 0), row(2)), (row(3),)):
            self.assertEqual(self.same_in_cubes(NO_LOTS, choice), (0, 0, ()))
            self.assertTrue(is_tree(NO_LOTS, smallest(NO_LOTS, choice)))

    def test_one_lot(self):
        hollow = Kinds(((), (0,), (1,)), (0, 1, 2), (0, 1), True)
        self.assertEqual(lots(hollow), ((0, 1, 2),))
        for kinds in (ONE, ONE.closing((0,)), hollow):
            for choice in (3, (0, 3, 4), (row(3, 0), row(4)), (0, (0, 3, 1), 2)):
                self.assertEqual(self.same_in_cubes(kinds, choice), (0, 0, ()))
                self.assertEqual(smallest(kinds, choice), 3)

    def test_kinds_that_no_thing_tells_apart(self):
        # A thing under 0 is always under 1 as well: a test of either is as good.
        kinds = Kinds(((), (0,), ()), (0,), (0,), True)
        self.assertEqual(self.same_in_cubes(kinds, (0, 1, 2)), (1, 1, (0, 1)))

    def test_by_what_is_closed(self):
        self.assertEqual(self.same_in_cubes(example(), (4, (1, 3, 2), (1, 1, 0))), (2, 2, (1, 4)))
        closed = Kinds(((), (), ()), (0, 1, 2), (), True)
        self.assertEqual(self.same_in_cubes(closed, (0, (1, 1, 2), (1, (2, 3, 4), (2, 5, 6)))), (2, 2, (0, 1, 2)))
        self.assertEqual(
            self.same_in_cubes(closed.opening((0, 1, 2)), (0, (1, 1, 2), (1, (2, 3, 4), (2, 5, 6)))), (4, 3, (0, 1)))


class TestSixKinds(Sizes):
    def test_more_than_twelve(self):
        self.assertEqual(self.same_in_cubes(APART, WIDE)[0], 21)
        with self.assertRaises(TooMany) as caught:
            smallest(APART, WIDE)
        self.assertEqual(caught.exception.limit, 12)
        self.assertIsInstance(caught.exception, KindError)

    def test_just_twelve_and_just_thirteen(self):
        found = {}
        draw = Draw(50)
        while not (12 in found and 13 in found):
            rows = draw.rows(APART, 6)
            found[fewest_tests(APART, rows)] = rows
        self.assertEqual(tests(self.ask(smallest, APART, found[12])), 12)
        for many in (12, 13):
            self.assertEqual(self.same_in_cubes(APART, found[many])[0], many)
        with self.assertRaises(TooMany) as caught:
            smallest(APART, found[13])
        self.assertEqual(caught.exception.limit, 12)

    def test_closing_makes_room(self):
        closed = APART.closing((0, 1, 2, 3, 4, 5))
        told = self.same_in_cubes(closed, WIDE)
        self.assertEqual(told, (0, 0, ()))
        self.assertLessEqual(self.same_in_cubes(APART.closing((0, 3)), WIDE)[0], 12)

    def test_each_answers_within_a_few_seconds(self):
        for choice in (WIDE, FEWER_NEEDS, Draw(51).tree(APART, 12)):
            for function in (fewest_tests, least_depth, first_tests, smallest):
                begun = time.monotonic()
                try:
                    function(APART, choice)
                except TooMany:
                    self.assertIs(function, smallest)
                self.assertLess(time.monotonic() - begun, 3)

    def test_drawn_rows(self):
        for other, draw in drawn(52, 12):
            self.same_in_cubes(APART, draw.rows(APART, 3 + draw.below(4)))

    def test_drawn_trees(self):
        for other, draw in drawn(53, 8):
            self.same_in_cubes(APART, draw.tree(APART, 12))


class TestSlowerWays(Sizes):
    def test_all_small_ones(self):
        choices = [(0, 1, 2), (0, (1, 1, 2), (1, 2, 1)), (1, (0, 1, 2), 3), (row(1, 0, 1), row(2, 1)), (row(0, 1),)]
        for several in (True, False):
            for kinds in small_kinds(2, several):
                for choice in choices:
                    self.same_grown(kinds, choice)

    def test_three_kinds_without_elders(self):
        kinds = Kinds(((), (), ()), (), (), True)
        for step in range(40):
            self.same_grown(kinds, Draw(60 + step).rows(kinds, 3))

    def test_drawn_ones_grown(self):
        asked = 0
        for kinds, draw in drawn(54, 150):
            if len(lots(kinds)) <= 7:
                asked += self.same_grown(kinds, draw.choice(kinds))[0] > 1
        self.assertTrue(asked > 5, asked)

    def test_drawn_ones_in_cubes(self):
        many = {}
        for kinds, draw in drawn(55, 150):
            told = self.same_in_cubes(kinds, draw.choice(kinds))
            many[told[0]] = many.get(told[0], 0) + 1
        self.assertTrue(len(many) > 4, many)


class TestPoint2c(Sizes):
    def test_trees_that_are_alike_have_no_fewer_tests_and_no_less_depth(self):
        compared = 0
        for kinds, draw in drawn(56, 150):
            tree = draw.tree(kinds, draw.below(13))
            told = self.sizes(kinds, tree)
            for other in (tree, trimmed(kinds, tree)):
                self.assertLessEqual(told[0], tests(other))
                self.assertLessEqual(told[1], depth(other))
            compared += told[0] < tests(trimmed(kinds, tree))
        self.assertTrue(compared > 3, compared)

    def test_no_tree_with_fewer_tests_is_alike(self):
        kinds = Kinds(((), (), (0,)), (), (0,), True)
        for step in range(25):
            choice = Draw(80 + step).choice(kinds)
            many, deep, firsts = self.sizes(kinds, choice)
            numbers = sorted({choice_told(choice, lot) for lot in tried_lots(kinds)})
            for fewer in range(min(many, 3)):
                for tree in all_trees(3, numbers, fewer):
                    self.assertIs(alike(kinds, tree, choice), False)


def all_trees(many, numbers, triples):
    """All trees of just so many triples over so many kinds with these answers."""
    if triples == 0:
        return list(numbers)
    out = []
    for left in range(triples):
        for yes in all_trees(many, numbers, left):
            for no in all_trees(many, numbers, triples - 1 - left):
                out += [(kind, yes, no) for kind in range(many)]
    return out


class TestAllChoicesTogether(Sizes):
    def test_with_more_kinds_closed_no_more(self):
        fewer = 0
        for kinds, draw in drawn(57, 60):
            choice = draw.choice(kinds)
            whole = self.sizes(kinds, choice)
            for some in subsets(kinds.opened()):
                told = self.sizes(kinds.closing(some), choice)
                self.assertLessEqual(told[0], whole[0])
                self.assertLessEqual(told[1], whole[1])
                fewer += told[0] < whole[0]
        self.assertTrue(fewer > 20, fewer)

    def test_alike_choices_have_the_same(self):
        asked = 0
        for kinds, draw in drawn(58, 150):
            choice = draw.choice(kinds)
            told = self.sizes(kinds, choice)
            if told[0] > 12:
                continue
            tree = smallest(kinds, choice)
            self.assertEqual(self.sizes(kinds, tree), told)
            self.assertEqual(self.sizes(kinds, (0, tree, tree)) if told[0] < 6 else told, told)
            asked += told[0] > 1
        self.assertTrue(asked > 10, asked)

    def test_by_name(self):
        self.assertEqual(self.ask(fewest_tests, choice=TREE, kinds=example()), 3)
        self.assertEqual(self.ask(least_depth, choice=TREE, kinds=example()), 2)
        self.assertEqual(self.ask(first_tests, choice=TREE, kinds=example()), (1, 2))
        self.assertEqual(tests(self.ask(smallest, choice=TREE, kinds=example())), 3)


class TestExamplesOfPoint16(unittest.TestCase):
    def test_examples(self):
        kinds = example()
        told = (fewest_tests(kinds, TREE), least_depth(kinds, TREE), first_tests(kinds, TREE))
        self.assertEqual(told, (3, 2, (1, 2)))
        self.assertEqual(fewest_tests(kinds, ((((1, True), (2, True)), 7), (((3, True),), 7))), 2)


if __name__ == "__main__":
    unittest.main()
