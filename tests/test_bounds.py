import unittest

from kindstocome import bounds
from kindstocome.bounds import MAX_ANSWER, MAX_EDITS, MAX_KINDS, MAX_NEEDS, MAX_NEW, MAX_ROWS, MAX_TESTS, MAX_WISHES


class TestBounds(unittest.TestCase):
    def test_values(self):
        values = (MAX_ANSWER, MAX_EDITS, MAX_KINDS, MAX_NEEDS, MAX_NEW, MAX_ROWS, MAX_TESTS, MAX_WISHES)
        self.assertEqual(values, (9, 30, 6, 3, 4, 6, 12, 3))

    def test_integers(self):
        names = [name for name in vars(bounds) if name.startswith("MAX_")]
        self.assertEqual(len(names), 8)
        for name in names:
            self.assertIs(type(getattr(bounds, name)), int, name)


if __name__ == "__main__":
    unittest.main()
