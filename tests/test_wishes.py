"""Point 14: is_wish, first_against and keeps."""

import unittest

from drawing import drawn
from kindstocome.comparing import first_clash, first_unlike
from kindstocome.choices import where
from kindstocome.hierarchies import Kinds
from kindstocome.lots import lots
from kindstocome.nearest import first_missing, first_unclear
from kindstocome.wishes import first_against, is_wish, keeps
from oracles import right_wish, tried_against
from samples import Asking, BIG, ROWS, TREE, any_values, example, variants

ONE = Kinds(((),), (), (), False)
NO_LOTS = Kinds(((), (0,)), (0, 1), (0, 1), True)
OFFERS = ((1, 5), (2, 6))

WISHES = [
    ("alike", TREE, ROWS), ("alike", 0, ()), ("alike", ROWS, ROWS), ("alike", (0, 1, 2), 5), ("alike", (), ROWS),
    ("never", TREE, 7), ("never", ROWS, 0), ("never", 9, 9), ("never", (), 5),
    ("clear", OFFERS), ("clear", ()), ("clear", ((0, 0), (1, 1), (2, 2), (3, 3), (4, 4))),
    ("full", OFFERS), ("full", ()), ("full", ((0, 0),)),
    ("any order", ROWS), ("any order", ()), ("any order", (((), 3),) * 6),
]


class TestIsWish(Asking):
    def right(self, *values):
        for value in values:
            self.is_so(is_wish, example(), value, True)

    def wrong(self, *values):
        for value in values:
            self.is_so(is_wish, example(), value, False)

    def test_right_ones(self):
        self.right(*WISHES)

    def test_other_words(self):
        for word in ("", "Alike", "ALIKE", "alike ", " alike", "like", "any", "order", "any  order", "any order ",
                     "any_order", "anyorder", "unclear", "missing", "closed", "never\n", "x" * 4000):
            self.wrong((word, TREE, ROWS), (word, TREE, 7), (word, OFFERS), (word, ROWS), (word,))

    def test_words_that_are_no_strings(self):
        for word in (None, True, 0, 1, (), ("alike",), ["alike"], {}, {"alike": 1}, example()):
            self.wrong((word, TREE, ROWS), (word, TREE, 7), (word, OFFERS), (word, ROWS), (word,))

    def test_the_parts_of_another_word(self):
        self.wrong(("alike", TREE, OFFERS), ("alike", OFFERS, OFFERS), ("never", OFFERS, 7), ("never", TREE, ROWS))
        self.wrong(("clear", ROWS), ("clear", TREE), ("clear", 5), ("full", ROWS), ("full", TREE), ("full", 5))
        self.wrong(("any order", TREE), ("any order", OFFERS), ("any order", 5))
        # A number is a tree as well.
        self.right(("alike", TREE, 7))

    def test_more_or_fewer_items(self):
        for wish in WISHES:
            self.wrong(wish[:-1], wish[:1], wish + (wish[-1],), wish + ((),), wish + (0,), wish + (None,))
        self.wrong((), ("alike",), ("never",), ("clear",), ("full",), ("any order",))

    def test_choices_that_are_neither_trees_nor_rows_of_the_kinds(self):
        deep = 5
        for step in range(13):
            deep = (0, deep, 1)
        bad = [10, -1, True, None, "5", (5, 1, 2), (0, 1), (0, 1, 10), (0, (9, 1, 2), 3), deep, (True, 1, 2), [0, 1, 2],
               ((((5, True),), 1),), ((((0, 1),), 1),), (((), 10),), (((), True),), (((), 1),) * 7, [], [((), 1)]]
        for choice in bad:
            self.wrong(("alike", choice, TREE), ("alike", ROWS, choice), ("never", choice, 7))
        for rows in bad[10:]:
            self.wrong(("any order", rows))

    def test_of_other_kinds(self):
        for value in (("alike", TREE, ROWS), ("never", TREE, 7), ("clear", OFFERS), ("full", OFFERS),
                      ("any order", ROWS)):
            self.is_so(is_wish, ONE, value, False)
            self.is_so(is_wish, example(), value, True)

    def test_numbers(self):
        for number in range(10):
            self.right(("never", TREE, number))
        for number in (10, 11, -1, BIG, True, False, None, "7", (7,), [7], (), (0, 1, 2)):
            self.wrong(("never", TREE, number))

    def test_offers_and_rows_that_are_none(self):
        for offers in (((5, 1),), ((1, 10),), ((1, 5), (1, 6)), ((2, 5), (1, 6)), ((1, True),), ((True, 1),), ((1,),),
                       ((0, 1),) * 7, [(1, 5)], ([1, 5],), None, 5, {}):
            self.wrong(("clear", offers), ("full", offers))
        for rows in (((((5, True),), 1),), (((), 10),), (((), 1),) * 7, ((),), None, 0, {}):
            self.wrong(("any order", rows))

    def test_lists_at_each_depth(self):
        self.wrong(["alike", TREE, ROWS], ["clear", OFFERS], ["never", TREE, 7], [["clear", OFFERS]])
        self.wrong(("alike", [1, 5, 6], ROWS), ("alike", TREE, list(ROWS)), ("alike", (1, [2, 7, 5], 6), ROWS))
        self.wrong(("never", list(ROWS), 7), ("clear", list(OFFERS)), ("full", ([1, 5],)), ("any order", list(ROWS)))
        self.wrong(("any order", ([((1, True),), 5],)), ("any order", (([(1, True)], 5),)))
        self.wrong(("any order", ((([1, True],), 5),)))

    def test_any_value(self):
        for value in any_values():
            for made in (value, (value,), ("alike", value), ("alike", value, TREE), ("alike", TREE, value),
                         ("never", value, 7), ("never", TREE, value), ("clear", value), ("full", value),
                         ("any order", value), (value, TREE, 7), (value, value, value), ("clear", OFFERS, value),
                         ("clear", (value,)), ("any order", (value,)), ("never", (0, value, 1), 1)):
                for kinds in (example(), ONE, NO_LOTS):
                    self.is_so(is_wish, kinds, made, right_wish(kinds, made))

    def test_right_ones_with_one_part_changed(self):
        for value in WISHES[:1] + WISHES[5:6] + WISHES[9:10] + WISHES[12:13] + WISHES[15:16]:
            for changed in variants(value):
                self.is_so(is_wish, example(), changed, right_wish(example(), changed))

    def test_drawn_ones(self):
        for kinds, draw in drawn(40, 200):
            self.is_so(is_wish, kinds, draw.wish(kinds), True)

    def test_what_is_passed_stays_as_it_is(self):
        value = ["alike", [0, 1, 2], [((), [1])]]
        self.is_so(is_wish, example(), value, False)
        self.assertEqual(value, ["alike", [0, 1, 2], [((), [1])]])

    def test_by_name(self):
        self.assertIs(self.ask(is_wish, value=("clear", OFFERS), kinds=example()), True)
        self.assertIs(self.ask(is_wish, kinds=ONE, value=("clear", OFFERS)), False)


class TestFirstAgainst(Asking):
    def against(self, kinds, wish):
        self.is_so(is_wish, kinds, wish, True)
        told = self.ask(first_against, kinds, wish)
        self.assertEqual(told, tried_against(kinds, wish), wish)
        self.assertIs(self.ask(keeps, kinds, wish), told is None)
        return told

    def test_alike(self):
        self.assertEqual(self.against(example(), ("alike", TREE, ROWS)), (0, 1, 2, 3))
        self.assertEqual(self.against(example(), ("alike", 5, ROWS)), (0, 2))
        self.assertEqual(self.against(example(), ("alike", TREE, (1, (3, 7, 5), (2, 6, 0)))), (0, 1, 2))
        self.assertIsNone(self.against(example(), ("alike", (1, 5, (2, 6, 0)), ROWS)))
        self.assertIsNone(self.against(example(), ("alike", 0, ())))
        self.assertIsNone(self.against(example(), ("alike", TREE, TREE)))

    def test_never(self):
        self.assertEqual(self.against(example(), ("never", TREE, 7)), (0, 1, 2, 3))
        self.assertEqual(self.against(example(), ("never", TREE, 0)), (0, 4))
        self.assertEqual(self.against(example(), ("never", ROWS, 6)), (0, 2))
        self.assertEqual(self.against(example(), ("never", 9, 9)), (0, 1))
        self.assertEqual(self.against(example(), ("never", (), 0)), (0, 1))
        self.assertIsNone(self.against(example(), ("never", TREE, 8)))
        self.assertIsNone(self.against(example(), ("never", ROWS, 7)))
        self.assertIsNone(self.against(example(), ("never", (4, (1, 3, 2), 1), 3)))

    def test_clear(self):
        self.assertEqual(self.against(example(), ("clear", OFFERS)), (0, 1, 2, 3))
        self.assertEqual(self.against(example(), ("clear", OFFERS + ((3, 7),))), (0, 1, 2))
        self.assertIsNone(self.against(example().closing((2,)), ("clear", OFFERS + ((3, 7),))))
        self.assertIsNone(self.against(example(), ("clear", ())))
        self.assertIsNone(self.against(example(), ("clear", ((0, 1), (1, 2)))))

    def test_full(self):
        self.assertEqual(self.against(example(), ("full", OFFERS)), (0, 4))
        self.assertEqual(self.against(example(), ("full", ())), (0, 1))
        self.assertEqual(self.against(example(), ("full", OFFERS + ((4, 1),))), (0,))
        self.assertIsNone(self.against(example().closing((0,)), ("full", OFFERS + ((4, 1),))))
        self.assertIsNone(self.against(example(), ("full", ((0, 0),))))

    def test_any_order(self):
        self.assertEqual(self.against(example(), ("any order", ROWS)), (0, 1, 2, 3))
        self.assertEqual(self.against(example(), ("any order", ROWS + (((), 5),))), (0, 1, 2, 3))
        self.assertEqual(self.against(example(), ("any order", ROWS[1:] + (((), 5),))), (0, 1, 2, 3))
        self.assertEqual(self.against(example(), ("any order", (((), 5), ((), 4)))), (0, 1))
        # Two rows that clash only where no known kind is.
        rows = ((((1, True), (3, False)), 5), (((2, True), (3, False)), 6))
        self.assertEqual(self.against(example(), ("any order", rows)), (0, 1, 2))
        self.assertIsNone(self.against(example().closing((1,)), ("any order", rows)))
        self.assertIsNone(self.against(example(), ("any order", ())))
        self.assertIsNone(self.against(example(), ("any order", (((), 3),) * 6)))

    def test_kinds_without_lots(self):
        for wish in (("alike", 1, 2), ("never", 1, 1), ("clear", ((0, 1), (1, 2))), ("full", ()),
                     ("any order", (((), 1), ((), 2)))):
            self.assertIsNone(self.against(NO_LOTS, wish))

    def test_one_kind(self):
        for wish in (("alike", 1, 2), ("never", 1, 1), ("full", ()), ("any order", (((), 1), ((), 2)))):
            self.assertEqual(self.against(ONE, wish), (0,))
        self.assertIsNone(self.against(ONE, ("clear", ((0, 1),))))

    def test_drawn_ones(self):
        kept, not_kept = {}, {}
        for kinds, draw in drawn(41, 600):
            wish = draw.wish(kinds)
            counts = kept if self.against(kinds, wish) is None else not_kept
            counts[wish[0]] = counts.get(wish[0], 0) + 1
        for word in ("alike", "never", "clear", "full", "any order"):
            self.assertTrue(kept[word] > 5 and not_kept[word] > 5, (word, kept, not_kept))

    def test_what_the_other_sections_tell(self):
        for kinds, draw in drawn(42, 150):
            one, other = draw.choice(kinds), draw.choice(kinds)
            offers, rows = draw.offers(kinds), draw.rows(kinds, 4)
            self.assertEqual(self.against(kinds, ("alike", one, other)), first_unlike(kinds, one, other))
            self.assertEqual(self.against(kinds, ("never", one, 1)), (where(kinds, one, 1) + (None,))[0])
            self.assertEqual(self.against(kinds, ("clear", offers)), first_unclear(kinds, offers))
            self.assertEqual(self.against(kinds, ("full", offers)), first_missing(kinds, offers))
            clash = first_clash(kinds, rows)
            self.assertIs(self.against(kinds, ("any order", rows)) is None, clash is None)

    def test_the_lot_is_one_of_lots(self):
        for kinds, draw in drawn(43, 100):
            told = self.against(kinds, draw.wish(kinds))
            self.assertTrue(told is None or told in lots(kinds))

    def test_by_name(self):
        wish = ("never", TREE, 7)
        self.assertEqual(self.ask(first_against, wish=wish, kinds=example()), (0, 1, 2, 3))
        self.assertIs(self.ask(keeps, wish=wish, kinds=example()), False)
        self.assertIs(self.ask(keeps, wish=("never", TREE, 8), kinds=example()), True)


class TestExampleOfPoint14(unittest.TestCase):
    def test_example(self):
        self.assertEqual(first_against(example(), ("clear", ((1, 5), (2, 6), (3, 7)))), (0, 1, 2))


if __name__ == "__main__":
    unittest.main()
