"""Point 21: texts of kinds."""

import itertools
import unittest

from drawing import drawn
from kindstocome.errors import BadText
from kindstocome.hierarchies import Kinds
from kindstocome.texts import kinds_text, read_kinds
from oracles import small_kinds
from samples import Asking, any_values, example, kinds_told, outcome, picture, raised, returned

TEXT = "several\nkind hollow\nkind 0\nkind 0\nkind 1 2\nkind 0 closed\n"


def numeral(word):
    """Whether a word is an integer of one or two digits, looked up in the list of all of them."""
    return word in [str(number) for number in range(100)]


def looked_up(value):
    """The pair of the fields of BadText, or Kinds, by the words of point 21 one after the other."""
    if type(value) is not str:
        return (0, 0)
    lines = []
    for number, line in enumerate(value.split("\n"), 1):
        words = [word for word in line[:(line + "#").index("#")].split(" ") if word]
        if words:
            lines.append((number, words))
    if not lines:
        return (0, 1)
    if lines[0][1] not in (["several"], ["single"]):
        return (lines[0][0], 2)
    parts = []
    for number, words in lines[1:]:
        elders = list(itertools.takewhile(numeral, words[1:]))
        flags = words[1 + len(elders):]
        if words[0] != "kind" or flags not in ([], ["closed"], ["hollow"], ["closed", "hollow"]):
            return (number, 2)
        elders = tuple(int(word) for word in elders)
        most = 1 if lines[0][1] == ["single"] else 6
        right = elders == tuple(sorted(set(elders))) and all(elder < len(parts) for elder in elders)
        if not right or len(elders) > most or len(parts) == 6:
            return (number, 3)
        parts.append((elders, "closed" in flags, "hollow" in flags))
    if not parts:
        return (0, 4)
    closed, hollow = [tuple(kind for kind, part in enumerate(parts) if part[at]) for at in (1, 2)]
    return Kinds(tuple(part[0] for part in parts), closed, hollow, lines[0][1] == ["several"])


class Texts(unittest.TestCase):
    def read(self, value, wanted):
        """Reads a value: into these Kinds, or into a BadText with these two fields."""
        passed = picture(value)
        told = outcome(read_kinds, value)
        self.assertEqual(told, returned(wanted) if isinstance(wanted, Kinds) else raised("BadText", *wanted), value)
        self.assertEqual(picture(value), passed)
        self.assertEqual(picture(looked_up(value)), picture(wanted), value)


class TestKindsText(Asking):
    def test_known_ones(self):
        self.assertEqual(self.ask(kinds_text, example()), TEXT)
        self.assertEqual(self.ask(kinds_text, Kinds(((),), (), (), True)), "several\nkind\n")
        self.assertEqual(self.ask(kinds_text, Kinds(((),), (0,), (0,), False)), "single\nkind closed hollow\n")
        self.assertEqual(
            self.ask(kinds_text, Kinds(((), (), (0, 1), (2,), (), (0, 1, 2, 3, 4)), (2, 5), (3, 5), True)),
            "several\nkind\nkind\nkind 0 1 closed\nkind 2 hollow\nkind\nkind 0 1 2 3 4 closed hollow\n")

    def test_by_name(self):
        self.assertEqual(self.ask(kinds_text, kinds=example()), TEXT)

    def test_example_of_point_21(self):
        self.assertEqual(
            kinds_text(example()), "several\nkind hollow\nkind 0\nkind 0\nkind 1 2\nkind 0 closed\n")


class TestThereAndBack(Texts):
    def test_small_ones(self):
        for many, several in itertools.product((1, 2, 3), (True, False)):
            for kinds in small_kinds(many, several)[::3]:
                self.read(kinds_text(kinds), kinds)

    def test_drawn_ones(self):
        for kinds, draw in drawn(100, 200):
            self.read(kinds_text(kinds), kinds)
            self.assertEqual(kinds_text(read_kinds(kinds_text(kinds))), kinds_text(kinds))

    def test_with_what_is_passed_over_put_in(self):
        for kinds, draw in drawn(101, 150):
            lines = []
            for line in kinds_text(kinds).splitlines():
                lines += [draw.one(("", "  ", "# kind 9", "   #", "#several")) for step in range(draw.below(3))]
                words = draw.one((" ", "  ", "     ")).join(line.split(" "))
                lines.append(draw.one(("", "  ")) + words + draw.one(("", "   ", "# more", " # kind # 0", "#")))
            self.read("\n".join(lines), kinds)
            self.read("\n".join(lines) + "\n", kinds)
            self.read("\n".join(lines) + "\n\n  \n# end\n", kinds)

    def test_the_last_line_feed_away(self):
        self.read(TEXT[:-1], example())
        self.read("single\nkind", Kinds(((),), (), (), False))

    def test_a_remark_directly_behind_a_word(self):
        self.read("several#\nkind#0\nkind 0#closed", Kinds(((), (0,)), (), (), True))
        self.read("several\nkind closed# hollow", Kinds(((),), (0,), (), True))

    def test_by_name(self):
        self.assertEqual(read_kinds(value=TEXT), example())
        self.assertEqual(outcome(read_kinds, value=5), raised("BadText", 0, 0))

    def test_what_is_told_are_tuples(self):
        for text in (TEXT, "single\nkind closed\nkind 0 hollow"):
            self.assertEqual(picture(kinds_told(read_kinds(text))), picture(kinds_told(looked_up(text))))


class TestBadText(Texts):
    def test_no_string(self):
        for value in any_values() + [[TEXT], (TEXT,), {TEXT: 1}]:
            if not isinstance(value, str):
                self.read(value, (0, 0))

    def test_no_words(self):
        for value in ("", " ", "\n", "  \n  \n", "#", "# several\n#kind", "   # x", "\n\n#\n \n"):
            self.read(value, (0, 1))

    def test_the_first_line_with_words(self):
        for line in ("kind", "Several", "SINGLE", "several single", "single several", "several 0", "several kind", "0",
                     "closed", "several,", "sev eral", "severalsingle", "several\t", "\tseveral", "\t", "x"):
            self.read(line, (1, 2))
            self.read(line + "\nkind\n", (1, 2))
            self.read("\n # x\n" + line + " # y\nkind\n", (3, 2))

    def test_words_of_kinds(self):
        for line in ("several", "single", "kinds", "Kind", "kin d", "0", "closed", "hollow", "0 kind", "closed kind",
                     "kind kind", "kind x", "kind -0", "kind +0", "kind 0.", "kind 0,1", "kind 0, 1",
                     "kind hollow closed",
                     "kind closed closed", "kind hollow hollow", "kind closed 0", "kind hollow 0", "kind 0 closed 0",
                     "kind closed hollow 0", "kind Closed", "kind closedhollow", "kind open",
                     "kind closed hollow closed",
                     "kind\t0", "kind 0\t", "\tkind", "kind \t", "\t", "kind 0 hollow 0 closed", "kind several"):
            self.read("several\nkind\n" + line, (3, 2))
            self.read("several\n" + line + "\nkind\n", (2, 2))
            self.read("single\n#\nkind # x\n\n  " + line + "  \nkind 9 # y\nkind x", (5, 2))

    def test_numbers(self):
        for word in ("00", "01", "000", "001", "100", "010", "123", "0x0", "1e1", "1_0", "9" * 40, "1" * 3000):
            self.read("several\nkind\nkind " + word, (3, 2))
            self.read("several\nkind\nkind\nkind 0 " + word, (4, 2))
        for word in ("1", "2", "6", "9", "10", "11", "99"):
            self.read("several\nkind\nkind " + word, (3, 3))
            self.read("several\nkind\nkind 0 " + word, (3, 3))

    def test_elders_that_are_refused(self):
        for line in ("kind 2", "kind 0 0", "kind 1 0", "kind 0 2", "kind 0 1 1", "kind 2 closed",
                "kind 5 closed hollow"):
            self.read("several\nkind\nkind\n" + line + "\n", (4, 3))
        self.read("several\nkind 0", (2, 3))
        self.read("single\nkind\nkind\nkind 0 1", (4, 3))
        self.read("several\nkind\nkind\nkind 0 1", Kinds(((), (), (0, 1)), (), (), True))

    def test_a_seventh_kind(self):
        six = "several\n" + "kind\n" * 6
        self.read(six, Kinds(((),) * 6, (), (), True))
        for line in ("kind", "kind 0", "kind 9", "kind closed", "kind 0 0"):
            self.read(six + "# x\n" + line, (9, 3))
            self.read(six + line + "\n" + line, (8, 3))
        for line in ("kind x", "several", "kind hollow closed", "kind 00"):
            self.read(six + line, (8, 2))

    def test_no_kind_at_all(self):
        for value in ("several", "single", "several\n", "single # x\n\n", "\n\n  several  \n#kind\n"):
            self.read(value, (0, 4))

    def test_the_first_line_that_is_not_right(self):
        self.read("several\nkind 0\nkind x\n", (2, 3))
        self.read("several\nkind x\nkind 9\n", (2, 2))
        self.read("x\nkind x\n", (1, 2))
        self.read("several\nkind\nkind 5 x\nkind 5", (3, 2))

    def test_blanks_alone_part_words(self):
        self.read("several\nkind\nkind\n\nkind 0\t1", (5, 2))
        self.read("several\tkind", (1, 2))
        self.read("several kind", (1, 2))

    def test_any_value(self):
        for value in any_values():
            wanted = looked_up(value)
            self.read(value, wanted)

    def test_texts_with_one_sign_changed(self):
        for text in (TEXT, "single\nkind closed hollow\nkind 0\n"):
            for at in range(len(text)):
                for sign in (" ", "\n", "#", "0", "1", "5", "k", "\t", ""):
                    for changed in (text[:at] + sign + text[at + 1:], text[:at] + sign + text[at:]):
                        self.read(changed, looked_up(changed))

    def test_texts_cut_off(self):
        for at in range(len(TEXT)):
            self.read(TEXT[:at], looked_up(TEXT[:at]))
            self.read(TEXT[at:], looked_up(TEXT[at:]))

    def test_words_in_any_order(self):
        words = ("kind", "0", "1", "closed", "hollow", "several", "10", "01")
        for some in itertools.chain(*[itertools.product(words, repeat=many) for many in (1, 2, 3)]):
            text = "several\nkind\nkind\n" + " ".join(some)
            self.read(text, looked_up(text))

    def test_the_class_and_its_fields(self):
        with self.assertRaises(BadText) as caught:
            read_kinds("several\n\nkind 5\n")
        self.assertEqual((caught.exception.line, caught.exception.code), (3, 3))


if __name__ == "__main__":
    unittest.main()
