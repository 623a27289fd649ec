"""Point 21: texts of trees."""

import itertools
import unittest

from drawing import drawn
from kindstocome.choices import is_tree, tests
from kindstocome.errors import BadTree
from kindstocome.hierarchies import Kinds
from kindstocome.texts import read_tree, tree_text
from samples import Asking, TREE, any_values, example, outcome, picture, raised, returned

SIX = Kinds(((),) * 6, (), (), True)
TEXT = "(1? (2? 7 5) (2? 6 0))"
SIGNS = "(0? 59)x\n#"


def chain(many, side):
    """A tree of so many triples, all within one another, by its side 1 or 2."""
    tree = 5
    for step in range(many):
        tree = (step % 6, tree, 3) if side == 1 else (step % 6, 3, tree)
    return tree


def is_beginning(text):
    """Whether some text of a tree begins so: what is awaited is kept as a row of signs, all written out."""
    awaited = ["tree"]
    room = 12
    for sign in text:
        if not awaited:
            return False
        next_one = awaited.pop()
        if next_one == "tree" and sign == "(" and room:
            room -= 1
            awaited += [")", "tree", " ", "tree", " ", "?", "kind"]
        elif sign not in {"tree": "0123456789", "kind": "012345"}.get(next_one, next_one):
            return False
    return True


def first_bad(text):
    """The place of BadTree for a text that is none, by asking of each beginning of it, the shortest first."""
    for at in range(len(text)):
        if not is_beginning(text[:at + 1]):
            return at
    return len(text)


class Trees(unittest.TestCase):
    def bad(self, text, place):
        self.assertEqual(outcome(read_tree, text), raised("BadTree", place), text)
        self.assertEqual(first_bad(text), place, text)

    def right(self, text, tree):
        self.assertEqual(outcome(read_tree, text), returned(tree))


class TestTreeText(Asking):
    def test_known_ones(self):
        for number in range(10):
            self.assertEqual(self.ask(tree_text, number), str(number))
        self.assertEqual(self.ask(tree_text, TREE), TEXT)
        self.assertEqual(self.ask(tree_text, (5, 9, 0)), "(5? 9 0)")
        self.assertEqual(self.ask(tree_text, (0, (1, 2, 3), 4)), "(0? (1? 2 3) 4)")
        self.assertEqual(self.ask(tree_text, (0, 4, (1, 2, 3))), "(0? 4 (1? 2 3))")

    def test_by_name(self):
        self.assertEqual(self.ask(tree_text, tree=TREE), TEXT)

    def test_example_of_point_21(self):
        self.assertEqual(tree_text(TREE), "(1? (2? 7 5) (2? 6 0))")


class TestThereAndBack(Trees):
    def test_known_ones(self):
        for tree in list(range(10)) + [TREE, (5, 9, 0), (0, (1, 2, 3), 4), (0, 4, (1, 2, 3))]:
            self.right(tree_text(tree), tree)

    def test_drawn_ones(self):
        for kinds, draw in drawn(110, 200):
            tree = draw.tree(SIX, draw.below(13))
            self.right(tree_text(tree), tree)
            self.assertEqual(tree_text(read_tree(tree_text(tree))), tree_text(tree))
            self.assertTrue(is_tree(SIX, read_tree(tree_text(tree))))

    def test_each_kind(self):
        for kind in range(6):
            self.right(f"({kind}? 1 2)", (kind, 1, 2))
        for kind in "6789":
            self.bad(f"({kind}? 1 2)", 1)

    def test_up_to_twelve(self):
        for many, side in itertools.product(range(13), (1, 2)):
            self.right(tree_text(chain(many, side)), chain(many, side))
        both = (0, chain(6, 1), chain(5, 2))
        self.assertEqual(tests(both), 12)
        self.right(tree_text(both), both)

    def test_by_name(self):
        self.assertEqual(read_tree(value=TEXT), TREE)
        self.assertEqual(outcome(read_tree, value=None), raised("BadTree", -1))


class TestBadTree(Trees):
    def test_no_string(self):
        for value in any_values() + [TREE, [TEXT], (TEXT,), {TEXT: 1}, 5, -1]:
            if not isinstance(value, str):
                passed = picture(value)
                self.assertEqual(outcome(read_tree, value), raised("BadTree", -1))
                self.assertEqual(picture(value), passed)

    def test_strings_that_are_none(self):
        for text, place in (("", 0), (" ", 0), ("\n", 0), ("x", 0), ("#", 0), ("?", 0), (")", 0), ("-1", 0), ("55", 1),
                            ("5 ", 1), ("5\n", 1), (" 5", 0), ("10", 1), ("5)", 1), ("(", 1), ("()", 1),
                            ("( 1? 2 3)", 1),
                            ("(1 2 3)", 2), ("(1?2 3)", 3), ("(1?  2 3)", 4), ("(1? 2  3)", 6), ("(1? 2 3 )", 7),
                            ("(1? 2 3) ", 8), ("(1? 2 3)\n", 8), ("(1? 2)", 5), ("(1? 2 3 4)", 7), ("(12? 3 4)", 2),
                            ("(01? 2 3)", 2), ("(1? 12 3)", 5), ("(1? 2 3))", 8), ("((1? 2 3)", 1), ("(1?", 3),
                            ("(1? 2 3", 7), ("(1? 2 ", 6), ("(1? -2 3)", 4), ("(1?\t2 3)", 3), ("(1?\n2 3)", 3),
                            ("# x\n5", 0), ("(1? 2 3) # x", 8), ("x" * 4000, 0), ("5" * 4000, 1)):
            self.bad(text, place)

    def test_cut_off(self):
        for text in (TEXT, tree_text(chain(12, 1)), tree_text(chain(12, 2)), "(0? 1 2)"):
            for many in range(len(text)):
                self.bad(text[:many], many)

    def test_behind_its_end(self):
        for text in ("5", TEXT, tree_text(chain(12, 1))):
            for sign in (" ", "5", "(", ")", "\n", "#", "?", " 5", text):
                self.bad(text + sign, len(text))

    def test_signs_left_out_put_in_or_exchanged(self):
        for text in (TEXT, "(0? 1 2)", "7", "(5? (4? 3 (2? 1 0)) 9)"):
            for at in range(len(text) + 1):
                changed = [text[:at] + text[at + 1:]]
                changed += [text[:at] + sign + text[at:] for sign in SIGNS]
                changed += [text[:at] + sign + text[at + 1:] for sign in SIGNS]
                for other in changed:
                    self.look_at(other)

    def look_at(self, text):
        told = outcome(read_tree, text)
        if told[0] == "told":
            tree = read_tree(text)
            self.assertEqual(tree_text(tree), text)
            self.assertTrue(is_tree(SIX, tree))
        else:
            self.bad(text, first_bad(text))

    def test_all_short_texts(self):
        for many in range(5):
            for signs in itertools.product("(0? 67)", repeat=many):
                self.look_at("".join(signs))

    def test_thirteen(self):
        left = tree_text(chain(13, 1))
        # The thirteenth of the signs by which tests begin is the first with which no text begins.
        self.bad(left, [at for at, sign in enumerate(left) if sign == "("][12])
        right = tree_text(chain(13, 2))
        self.bad(right, [at for at, sign in enumerate(right) if sign == "("][12])
        both = tree_text((0, chain(6, 1), chain(6, 2)))
        self.bad(both, [at for at, sign in enumerate(both) if sign == "("][12])
        self.bad(tree_text(chain(18, 1)), left.rfind("("))

    def test_many_beginnings(self):
        self.bad("(0? " * 1000, 48)
        self.bad("(" * 4000, 1)
        self.bad("(0? 1 " * 600, 72)

    def test_thirteen_that_are_wrong_elsewhere(self):
        text = tree_text(chain(13, 1))
        self.bad(text[:9] + "x" + text[10:], 9)

    def test_any_value(self):
        for value in any_values():
            if isinstance(value, str) and value != "0":
                self.bad(value, first_bad(value))

    def test_drawn_ones_with_signs_changed(self):
        for kinds, draw in drawn(111, 300):
            text = tree_text(draw.tree(SIX, draw.below(14)))
            at = draw.below(len(text))
            self.look_at(text[:at] + draw.one(SIGNS) + text[at + draw.below(2):])

    def test_the_class_and_its_field(self):
        with self.assertRaises(BadTree) as caught:
            read_tree("(1? 2 x)")
        self.assertEqual(caught.exception.place, 6)
        self.assertEqual(picture(caught.exception.place), picture(6))


class TestOfAShelf(unittest.TestCase):
    def test_a_tree_of_a_text_can_be_asked(self):
        self.assertTrue(is_tree(example(), read_tree(TEXT)))
        self.assertFalse(is_tree(example(), read_tree("(5? 1 2)")))


if __name__ == "__main__":
    unittest.main()
