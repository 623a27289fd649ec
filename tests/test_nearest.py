"""Points 12 and 13: offers, the nearest ones, unclear and missing lots, and offers as rows."""

import unittest

from drawing import drawn
from kindstocome.choices import answer, is_rows
from kindstocome.hierarchies import Kinds
from kindstocome.lots import lots
from kindstocome.nearest import as_rows, first_missing, first_unclear, is_offers, nearest
from oracles import looked_up_nearest, nearest_told, right_offers, tried_lots
from samples import Asking, BIG, any_values, example, subsets, variants

ONE = Kinds(((),), (), (), False)
NO_LOTS = Kinds(((), (0,)), (0, 1), (0, 1), True)
SIX = Kinds(((), (0,), (0,), (1, 2), (3,), (2,)), (), (), True)
APART = Kinds(((),) * 6, (), (), True)
SIX_OFFERS = ((0, 1), (1, 2), (2, 3), (3, 4), (4, 5), (5, 6))


class TestIsOffers(Asking):
    def right(self, *values):
        for value in values:
            self.is_so(is_offers, example(), value, True)

    def wrong(self, *values):
        for value in values:
            self.is_so(is_offers, example(), value, False)

    def test_none_to_six_offers(self):
        for many in range(7):
            self.is_so(is_offers, SIX, SIX_OFFERS[:many], True)
            self.is_so(is_offers, SIX, SIX_OFFERS[6 - many:], True)
        for many in range(6):
            self.right(SIX_OFFERS[:many])
        self.wrong(SIX_OFFERS)

    def test_seven_offers(self):
        for kinds in (example(), SIX):
            self.is_so(is_offers, kinds, SIX_OFFERS + ((6, 7),), False)
            self.is_so(is_offers, kinds, SIX_OFFERS + ((5, 6),), False)
            self.is_so(is_offers, kinds, ((0, 1),) * 7, False)

    def test_kinds_not_ascending_or_twice(self):
        self.wrong(((1, 5), (0, 5)), ((1, 5), (1, 5)), ((1, 5), (1, 6)), ((0, 1), (2, 1), (1, 1)))
        self.wrong(((0, 1), (0, 2), (1, 1)), ((4, 1), (3, 2), (2, 3)))
        # Only the kinds are ascending.
        self.right(((0, 9), (1, 0)), ((0, 5), (1, 5)))

    def test_kinds_that_are_none(self):
        for kind in (5, 6, -1, BIG, -BIG, None, "0", (), (0,), True, False, [], {}):
            self.wrong(((kind, 1),), ((0, 1), (kind, 1)))
        for kind in range(3):
            self.is_so(is_offers, ONE, ((kind, 1),), kind == 0)

    def test_answers(self):
        for number in range(10):
            self.right(((0, number),), ((0, 1), (4, number)))
        for number in (10, 11, -1, BIG, None, "1", (), (1,), [1], True, False):
            self.wrong(((0, number),), ((0, 1), (4, number)), ((0, number), (4, 1)))

    def test_lists_at_each_depth(self):
        self.wrong([], [(0, 1)], ([0, 1],), ((0, 1), [1, 1]), [[0, 1]], (([0], 1),), ((0, [1]),))

    def test_pairs_of_other_lengths(self):
        self.wrong(((),), ((0,),), ((0, 1, 2),), ((0, 1), (1,)), ((0, 1), (1, 2, 3)), ((0, 1), ()), (0, 1), (0,))

    def test_any_value(self):
        for kinds in (example(), ONE):
            for value in any_values():
                for made in (value, (value,), ((value, 1),), ((0, value),), ((0, 1), value), ((0, 1), (1, value))):
                    self.is_so(is_offers, kinds, made, right_offers(kinds, made))

    def test_right_ones_with_one_part_changed(self):
        for kinds, value in ((example(), ((1, 5), (2, 6))), (SIX, SIX_OFFERS), (example(), ((4, 0),))):
            self.is_so(is_offers, kinds, value, True)
            for changed in variants(value):
                self.is_so(is_offers, kinds, changed, right_offers(kinds, changed))

    def test_what_is_passed_stays_as_it_is(self):
        value = [[0, 1], (1, [2])]
        self.is_so(is_offers, example(), value, False)
        self.assertEqual(value, [[0, 1], (1, [2])])

    def test_by_name(self):
        self.assertIs(self.ask(is_offers, value=((1, 5),), kinds=example()), True)
        self.assertIs(self.ask(is_offers, kinds=ONE, value=((1, 5),)), False)


class TestNearest(Asking):
    def near(self, kinds, offers, lot):
        told = self.ask(nearest, kinds, offers, lot)
        self.assertEqual(told, looked_up_nearest(kinds, offers, lot))
        return told

    def test_no_offers_and_no_kinds(self):
        for lot in ((), (0,), (0, 1, 2, 3, 4)):
            self.assertEqual(self.near(example(), (), lot), ())
        self.assertEqual(self.near(example(), ((0, 1), (3, 2)), ()), ())

    def test_kinds_under_one_another(self):
        chain = Kinds(((), (0,), (1,), (2,)), (), (), True)
        offers = ((0, 1), (1, 2), (2, 3), (3, 4))
        for kind in range(4):
            self.assertEqual(self.near(chain, offers, tuple(range(kind + 1))), (kind,))
        # What lies between two offers has none itself.
        self.assertEqual(self.near(chain, ((0, 1), (3, 4)), (0, 1, 2)), (0,))
        self.assertEqual(self.near(chain, ((0, 1), (3, 4)), (0, 1, 2, 3)), (3,))

    def test_kinds_beside_one_another(self):
        self.assertEqual(self.near(example(), ((1, 5), (2, 6)), (0, 1, 2)), (1, 2))
        self.assertEqual(self.near(example(), ((0, 4), (1, 5), (2, 6)), (0, 1, 2)), (1, 2))
        self.assertEqual(self.near(example(), ((0, 4), (1, 5), (2, 6), (3, 7)), (0, 1, 2, 3)), (3,))
        self.assertEqual(self.near(example(), ((0, 4), (3, 5), (4, 6)), (0, 1, 2, 3, 4)), (3, 4))

    def test_the_answers_do_not_count(self):
        for one in (0, 5, 9):
            self.assertEqual(self.near(example(), ((1, one), (2, 5)), (0, 1, 2)), (1, 2))

    def test_tuples_of_kinds_that_are_no_lots(self):
        self.assertEqual(self.near(example(), ((0, 1), (3, 2)), (3,)), (3,))
        self.assertEqual(self.near(example(), ((0, 1), (1, 1), (3, 2)), (1, 4)), (1,))
        self.assertEqual(self.near(example(), ((0, 1), (2, 2), (3, 3), (4, 4)), (2, 4)), (2, 4))
        for offers in (SIX_OFFERS, SIX_OFFERS[::2], SIX_OFFERS[1:4]):
            for lot in subsets(range(6)):
                self.near(SIX, offers, lot)

    def test_drawn_ones(self):
        for kinds, draw in drawn(30, 150):
            offers = draw.offers(kinds)
            for lot in subsets(range(len(kinds))):
                self.near(kinds, offers, lot)

    def test_by_name(self):
        self.assertEqual(self.ask(nearest, lot=(0, 1, 2), offers=((1, 5), (2, 6)), kinds=example()), (1, 2))


class TestFirstUnclearAndMissing(Asking):
    def unclear(self, kinds, offers):
        told = self.ask(first_unclear, kinds, offers)
        found = [lot for lot in tried_lots(kinds) if len(nearest_told(kinds, offers, lot)) > 1]
        self.assertEqual(told, found[0] if found else None)
        return told

    def missing(self, kinds, offers):
        told = self.ask(first_missing, kinds, offers)
        found = [lot for lot in tried_lots(kinds) if not nearest_told(kinds, offers, lot)]
        self.assertEqual(told, found[0] if found else None)
        return told

    def test_the_first_of_lots(self):
        self.assertEqual(self.unclear(example(), ((1, 5), (2, 6))), (0, 1, 2, 3))
        self.assertEqual(self.unclear(example(), ((1, 5), (2, 6), (3, 7))), (0, 1, 2))
        self.assertEqual(self.unclear(APART, ((1, 5), (2, 6), (3, 7))), (1, 2))
        self.assertEqual(self.unclear(APART, ((1, 5), (2, 5), (5, 7))), (1, 5))
        self.assertEqual(self.missing(example(), ((1, 5), (2, 6))), (0, 4))
        self.assertEqual(self.missing(example(), ((1, 5), (2, 6), (4, 6))), (0,))
        self.assertEqual(self.missing(example(), ((2, 6), (4, 6))), (0, 1))

    def test_none(self):
        self.assertIsNone(self.unclear(example(), ((1, 5), (2, 5))))
        self.assertIsNone(self.unclear(example(), ((0, 1), (1, 5), (4, 6))))
        self.assertIsNone(self.unclear(example().closing((1,)), ((1, 5), (2, 6), (3, 7))))
        self.assertIsNone(self.missing(example(), ((0, 1),)))
        self.assertIsNone(self.missing(example().closing((0,)), ((1, 5), (2, 6), (4, 7))))

    def test_the_answer_nought_is_an_answer(self):
        self.assertEqual(self.unclear(example(), ((1, 0), (2, 6))), (0, 1, 2, 3))
        self.assertIsNone(self.missing(example(), ((0, 0),)))

    def test_no_offers(self):
        for kinds in (example(), ONE, APART):
            self.assertIsNone(self.unclear(kinds, ()))
            self.assertEqual(self.missing(kinds, ()), lots(kinds)[0])

    def test_kinds_without_lots(self):
        for offers in ((), ((0, 1),), ((0, 1), (1, 2))):
            self.assertIsNone(self.unclear(NO_LOTS, offers))
            self.assertIsNone(self.missing(NO_LOTS, offers))

    def test_drawn_ones(self):
        unclear = missing = 0
        for kinds, draw in drawn(31, 300):
            offers = draw.offers(kinds)
            unclear += self.unclear(kinds, offers) is not None
            missing += self.missing(kinds, offers) is not None
        self.assertTrue(20 < unclear < 260, unclear)
        self.assertTrue(40 < missing < 260, missing)

    def test_by_name(self):
        self.assertEqual(self.ask(first_unclear, offers=((1, 5), (2, 6)), kinds=example()), (0, 1, 2, 3))
        self.assertEqual(self.ask(first_missing, offers=((1, 5), (2, 6)), kinds=example()), (0, 4))


class TestAsRows(Asking):
    def test_a_row_for_each_offer_the_greatest_kind_first(self):
        self.assertEqual(self.ask(as_rows, example(), ()), ())
        self.assertEqual(self.ask(as_rows, example(), ((4, 0),)), ((((4, True),), 0),))
        self.assertEqual(
            self.ask(as_rows, example(), ((1, 5), (2, 6), (3, 5))),
            ((((3, True),), 5), (((2, True),), 6), (((1, True),), 5)))
        self.assertEqual(
            self.ask(as_rows, SIX, SIX_OFFERS), tuple((((kind, True),), kind + 1) for kind in (5, 4, 3, 2, 1, 0)))

    def test_they_are_rows(self):
        for kinds, draw in drawn(32, 100):
            offers = draw.offers(kinds)
            rows = self.ask(as_rows, kinds, offers)
            self.is_so(is_rows, kinds, rows, True)
            self.assertEqual(tuple((row[0][0][0], row[1]) for row in rows[::-1]), offers)
            for row in rows:
                self.assertIs(row[0][0][1], True)

    def test_by_name(self):
        self.assertEqual(self.ask(as_rows, offers=((4, 0),), kinds=example()), ((((4, True),), 0),))


class TestPoint13(Asking):
    def test_the_answers_of_clear_offers(self):
        clear = missing = 0
        for kinds, draw in drawn(33, 400):
            offers = draw.offers(kinds)
            if first_unclear(kinds, offers) is not None:
                continue
            rows = as_rows(kinds, offers)
            for lot in lots(kinds):
                told = nearest_told(kinds, offers, lot)
                self.assertEqual({answer(rows, lot)}, told or {0})
                clear += len(told)
                missing += not told
        self.assertTrue(clear > 200 and missing > 50, (clear, missing))

    def test_closing_makes_no_lot_unclear_or_missing(self):
        kept = 0
        for kinds, draw in drawn(34, 150):
            offers = draw.offers(kinds)
            for first in (first_unclear, first_missing):
                if first(kinds, offers) is None:
                    for some in subsets(kinds.opened()):
                        self.assertIsNone(self.ask(first, kinds.closing(some), offers))
                        kept += 1
        self.assertTrue(kept > 300, kept)


class TestExamplesOfPoints12And13(unittest.TestCase):
    def test_examples(self):
        kinds = example()
        self.assertEqual(
            (nearest(kinds, ((1, 5), (2, 6)), (0, 1, 2)), first_unclear(kinds, ((1, 5), (2, 6)))),
            ((1, 2), (0, 1, 2, 3)))
        self.assertEqual(
            (first_unclear(kinds, ((1, 5), (2, 6), (3, 7))), first_missing(kinds, ((0, 1),))),
            ((0, 1, 2), None))


if __name__ == "__main__":
    unittest.main()
