"""Points 17 and 18: later hierarchies, known parts, releases and what breaks; and point 2 (f)."""

import itertools
import unittest

from drawing import drawn
from kindstocome.hierarchies import Kinds
from kindstocome.lots import lots
from kindstocome.releases import breaks, first_new, is_later, is_release, known_lots
from kindstocome.wishes import keeps
from oracles import looked_up_against, small_kinds, tried_lots
from samples import Asking, ROWS, TREE, example, subsets

ONE = Kinds(((),), (), (), True)
NO_LOTS = Kinds(((), (0,)), (0, 1), (0, 1), True)
# The L of the document's example.
LATER = Kinds(((), (0,), (0,), (1, 2), (0,), (1, 4)), (4,), (0,), True)


def looked_up_parts(kinds, later):
    """The known parts of all lots of later, by the words of point 17."""
    found = set()
    for lot in tried_lots(later):
        found.add(tuple(kind for kind in lot if kind in range(len(kinds.elders))))
    return tuple(sorted(found))


def looked_up_later(kinds, later):
    many = len(kinds.elders)
    return (
        len(later.elders) >= many and kinds.several == later.several
        and all(later.elders[kind] == kinds.elders[kind] for kind in range(many)))


def grown(draw, kinds):
    """A later hierarchy with more kinds, and other ones closed and hollow."""
    elders = kinds.elders
    while len(elders) < 6 and draw.below(3):
        elders += (draw.some(range(len(elders)), len(elders) if kinds.several else 1),)
    every = range(len(elders))
    closed = kinds.closed if draw.below(3) else draw.some(every, len(elders))
    hollow = kinds.hollow if draw.below(3) else draw.some(every, len(elders))
    return Kinds(elders, closed, hollow, kinds.several)


class Later(Asking):
    def parts(self, kinds, later):
        """The known parts, held against the words; what hangs on them is looked at beside."""
        told = self.ask(known_lots, kinds, later)
        self.assertEqual(told, looked_up_parts(kinds, later))
        new = [part for part in told if part not in tried_lots(kinds)]
        self.assertEqual(self.ask(first_new, kinds, later), new[0] if new else None)
        self.assertIs(self.ask(is_release, kinds, later), new == [])
        return told

    def broken(self, kinds, later, wish):
        told = self.ask(breaks, kinds, later, wish)
        found = [part for part in looked_up_parts(kinds, later) if looked_up_against(kinds, wish, part)]
        self.assertEqual(told, found[0] if found else None, wish)
        return told


class TestIsLater(Asking):
    def later(self, kinds, later, wanted):
        self.assertIs(self.ask(is_later, kinds, later), wanted)
        self.assertIs(wanted, looked_up_later(kinds, later))
        if not wanted:
            self.assertIs(self.ask(is_release, kinds, later), False)

    def test_the_same_elders_and_more_kinds(self):
        self.later(example(), example(), True)
        self.later(example(), LATER, True)
        self.later(ONE, example(), True)
        self.later(ONE, NO_LOTS, True)
        self.later(Kinds(((), (0,)), (), (), True), example(), True)

    def test_what_is_closed_or_hollow_does_not_count(self):
        for some in subsets(range(5)):
            self.later(example(), Kinds(example().elders, some, (), True), True)
            self.later(Kinds(example().elders, some, some, True), LATER, True)

    def test_another_elder(self):
        self.later(example(), Kinds(((), (0,), (0,), (1,), (0,)), (4,), (0,), True), False)
        self.later(example(), Kinds(((), (0,), (0,), (1, 2), (0, 1)), (4,), (0,), True), False)
        self.later(example(), Kinds(((), (0,), (1,), (1, 2), (0,), (0,)), (4,), (0,), True), False)
        self.later(ONE, Kinds(((), ()), (), (), True), True)
        self.later(Kinds(((), ()), (), (), True), Kinds(((), (0,)), (), (), True), False)
        self.later(Kinds(((), (0,)), (), (), True), Kinds(((), ()), (), (), True), False)

    def test_another_several(self):
        self.later(ONE, Kinds(((),), (), (), False), False)
        self.later(Kinds(((),), (), (), False), ONE, False)
        self.later(Kinds(((),), (), (), False), Kinds(((), (0,)), (), (), False), True)

    def test_fewer_kinds(self):
        self.later(LATER, example(), False)
        self.later(example(), ONE, False)
        self.later(NO_LOTS, ONE, False)

    def test_all_small_ones(self):
        every = [
            kinds for many, several in itertools.product((1, 2, 3), (True, False))
            for kinds in small_kinds(many, several) if kinds.closed == kinds.hollow == ()]
        for kinds, later in itertools.product(every, every):
            self.later(kinds, later, looked_up_later(kinds, later))

    def test_by_name(self):
        self.assertIs(self.ask(is_later, later=LATER, kinds=example()), True)
        self.assertIs(self.ask(is_later, kinds=LATER, later=example()), False)


class TestKnownLots(Later):
    def test_known_ones(self):
        self.assertEqual(self.parts(example(), example()), tuple(sorted(lots(example()))))
        self.assertEqual(
            self.parts(example(), LATER),
            ((0,), (0, 1), (0, 1, 2), (0, 1, 2, 3), (0, 1, 2, 3, 4), (0, 1, 2, 4), (0, 1, 4), (0, 2), (0, 4)))
        self.assertEqual(self.parts(ONE, example()), ((0,),))

    def test_the_empty_tuple(self):
        later = Kinds(((), ()), (), (), True)
        self.assertEqual(self.parts(ONE, later), ((), (0,)))
        self.assertEqual(self.ask(first_new, ONE, later), ())
        self.assertIs(self.ask(is_release, ONE, later), False)
        closed = Kinds(((), ()), (0, 1), (0,), True)
        self.assertEqual(self.parts(ONE, closed), ((),))

    def test_a_kind_that_brings_only_lots_of_kinds(self):
        later = Kinds(((), (0,), (0,), (1, 2), (0,), (1,)), (4,), (0,), True)
        self.assertIsNone(self.ask(first_new, example(), later))
        self.assertIs(self.ask(is_release, example(), later), True)
        self.assertEqual(self.parts(example(), later), tuple(sorted(lots(example()))))

    def test_a_kind_under_a_closed_one(self):
        later = Kinds(((), (0,), (0,), (1, 2), (0,), (4,)), (4,), (0,), True)
        # Strangers can put their kinds under 5, and so under 4 and 1 together.
        self.assertEqual(self.parts(example(), later)[4:6], ((0, 1, 2, 3, 4), (0, 1, 2, 4)))
        self.assertIs(self.ask(is_release, example(), later), False)
        shut = Kinds(later.elders, (4, 5), (0,), True)
        self.assertIs(self.ask(is_release, example(), shut), True)
        self.parts(example(), shut)

    def test_reopened_or_no_longer_hollow(self):
        self.assertEqual(self.ask(first_new, example(), example().opening((4,))), (0, 1, 2, 3, 4))
        self.assertEqual(self.ask(first_new, example().closing((0,)), example()), (0,))
        full = Kinds(example().elders, (0, 4), (), True)
        self.assertEqual(self.ask(first_new, example().closing((0,)), full), (0,))

    def test_kinds_without_lots(self):
        self.assertEqual(self.parts(NO_LOTS, NO_LOTS), ())
        self.assertIs(self.ask(is_release, NO_LOTS, NO_LOTS), True)
        later = Kinds(((), (0,), (1,)), (0, 1, 2), (0, 1), True)
        self.assertEqual(self.parts(NO_LOTS, later), ((0, 1),))
        self.assertEqual(self.ask(first_new, NO_LOTS, later), (0, 1))
        self.assertEqual(self.parts(example(), Kinds(example().elders, (0, 1, 2, 3, 4), (0, 1, 2, 3, 4), True)), ())

    def test_one_elder(self):
        kinds = Kinds(((), (0,)), (), (), False)
        later = Kinds(((), (0,), (1,), (0,)), (2,), (1,), False)
        self.assertEqual(self.parts(kinds, later), ((0,), (0, 1)))
        self.assertIs(self.ask(is_release, kinds, later), True)

    def test_drawn_ones(self):
        releases = 0
        for kinds, draw in drawn(70, 300):
            later = grown(draw, kinds)
            self.assertIs(self.ask(is_later, kinds, later), True)
            self.parts(kinds, later)
            releases += is_release(kinds, later)
        self.assertTrue(60 < releases < 280, releases)

    def test_by_name(self):
        self.assertEqual(self.ask(known_lots, later=example(), kinds=ONE), ((0,),))
        self.assertEqual(self.ask(first_new, later=LATER, kinds=example()), (0, 1, 2, 3, 4))
        self.assertIs(self.ask(is_release, later=LATER, kinds=example()), False)


class TestIsRelease(Later):
    def test_of_themselves(self):
        for kinds, draw in drawn(71, 150):
            self.assertIs(self.ask(is_release, kinds, kinds), True)

    def test_with_more_kinds_closed_or_hollow(self):
        for kinds, draw in drawn(72, 150):
            every = range(len(kinds))
            closed = tuple(sorted(set(kinds.closed) | set(draw.some(every, len(kinds)))))
            hollow = tuple(sorted(set(kinds.hollow) | set(draw.some(every, len(kinds)))))
            self.assertIs(self.ask(is_release, kinds, kinds.closing(closed)), True)
            self.assertIs(self.ask(is_release, kinds, Kinds(kinds.elders, kinds.closed, hollow, kinds.several)), True)
            self.assertIs(self.ask(is_release, kinds, Kinds(kinds.elders, closed, hollow, kinds.several)), True)

    def test_a_release_of_a_release_is_one(self):
        found = 0
        for kinds, draw in drawn(73, 300):
            later = grown(draw, kinds)
            last = grown(draw, later)
            if is_release(kinds, later) and is_release(later, last):
                self.assertIs(self.ask(is_release, kinds, last), True)
                found += len(last) > len(kinds)
        self.assertTrue(found > 20, found)


class TestBreaks(Later):
    def test_alike(self):
        self.assertIsNone(self.broken(example(), LATER, ("alike", TREE, TREE)))
        self.assertEqual(self.broken(example(), LATER, ("alike", TREE, ROWS)), (0, 1, 2))
        self.assertEqual(self.broken(example(), LATER, ("alike", (4, (1, 3, 2), 1), (4, 2, 1))), (0, 1, 2, 3, 4))
        self.assertIsNone(self.broken(example(), example(), ("alike", (4, (1, 3, 2), 1), (4, 2, 1))))

    def test_never(self):
        wish = ("never", ((((1, True), (4, True)), 5),), 5)
        self.assertIs(keeps(example(), wish), True)
        self.assertEqual(self.broken(example(), LATER, wish), (0, 1, 2, 3, 4))
        self.assertIsNone(self.broken(example(), example(), wish))
        self.assertIsNone(self.broken(example(), LATER, ("never", TREE, 8)))

    def test_clear(self):
        wish = ("clear", ((1, 5), (4, 6)))
        self.assertIs(keeps(example(), wish), True)
        self.assertEqual(self.broken(example(), LATER, wish), (0, 1, 2, 3, 4))
        self.assertIsNone(self.broken(example(), LATER, ("clear", ((1, 5), (4, 5)))))

    def test_full(self):
        self.assertIsNone(self.broken(example(), LATER, ("full", ((0, 5),))))
        self.assertEqual(self.broken(example(), LATER, ("full", ((1, 5),))), (0,))
        self.assertEqual(self.broken(ONE, Kinds(((), ()), (), (), True), ("full", ((0, 5),))), ())

    def test_any_order(self):
        wish = ("any order", ((((1, True),), 5), (((4, True),), 6)))
        self.assertIs(keeps(example(), wish), True)
        self.assertEqual(self.broken(example(), LATER, wish), (0, 1, 2, 3, 4))
        self.assertIsNone(self.broken(example(), example(), wish))

    def test_the_empty_tuple(self):
        later = Kinds(((), ()), (), (), True)
        self.assertEqual(self.broken(ONE, later, ("never", (0, 1, 2), 2)), ())
        self.assertIsNone(self.broken(ONE, later, ("never", (0, 1, 2), 3)))
        self.assertIsNone(self.broken(ONE, later, ("clear", ((0, 5),))))

    def test_a_wish_that_was_not_kept(self):
        self.assertEqual(self.broken(example(), example(), ("never", TREE, 0)), (0,))

    def test_drawn_ones(self):
        words = {}
        for kinds, draw in drawn(74, 500):
            wish = draw.wish(kinds)
            if self.broken(kinds, grown(draw, kinds), wish) is not None:
                words[wish[0]] = words.get(wish[0], 0) + 1
        self.assertEqual(sorted(words), ["alike", "any order", "clear", "full", "never"])

    def test_by_name(self):
        wish = ("clear", ((1, 5), (4, 6)))
        self.assertEqual(self.ask(breaks, wish=wish, later=LATER, kinds=example()), (0, 1, 2, 3, 4))


class TestPoint2f(Later):
    def test_a_release_breaks_no_wish_that_was_kept(self):
        kept = lost = 0
        for kinds, draw in drawn(75, 400):
            later = grown(draw, kinds)
            for step in range(4):
                wish = draw.wish(kinds)
                if keeps(kinds, wish):
                    told = self.broken(kinds, later, wish)
                    if is_release(kinds, later):
                        self.assertIsNone(told)
                        kept += len(lots(later)) > 0
                    lost += told is not None
        self.assertTrue(kept > 200 and lost > 20, (kept, lost))

    def test_what_is_no_release_breaks_some_wish(self):
        found = 0
        for kinds, draw in drawn(76, 200):
            later = grown(draw, kinds)
            new = first_new(kinds, later)
            if new is not None and len(kinds) <= 3:
                # A row for the new part alone: kinds never comes there.
                needs = tuple((kind, kind in new) for kind in range(len(kinds)))
                wish = ("never", ((needs, 1),), 1)
                self.assertIs(keeps(kinds, wish), True)
                self.assertEqual(self.broken(kinds, later, wish), new)
                found += 1
        self.assertTrue(found > 20, found)


class TestExampleOfPoint17(unittest.TestCase):
    def test_example(self):
        self.assertEqual((is_release(example(), LATER), first_new(example(), LATER)), (False, (0, 1, 2, 3, 4)))


if __name__ == "__main__":
    unittest.main()
