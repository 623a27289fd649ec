import copy
import itertools
import unittest

from kindstocome import errors
from kindstocome.errors import KindError, NoKind
from samples import any_values

FIELDS = {
    "Against": ("index", "lot"),
    "BadChoice": (),
    "BadEdits": ("index",),
    "BadKinds": ("place",),
    "BadText": ("line", "code"),
    "BadTree": ("place",),
    "BadWishes": (),
    "Full": (),
    "Idle": (),
    "NothingToUndo": (),
    "Rejected": ("index", "error"),
    "TooMany": ("limit",),
    "NoKind": ("kind",),
}


def made(name, values):
    return getattr(errors, name)(*values)


def samples():
    """Each of the thirteen errors, made once."""
    return [made(name, range(len(FIELDS[name]))) for name in FIELDS]


class TestFields(unittest.TestCase):
    def test_each_field_is_the_very_value(self):
        for name, fields in FIELDS.items():
            for values in itertools.product(any_values(), repeat=len(fields)):
                error = made(name, values)
                for field, value in zip(fields, values):
                    self.assertIs(getattr(error, field), value, name)

    def test_no_other_fields(self):
        for name, fields in FIELDS.items():
            error = made(name, range(len(fields)))
            self.assertEqual(tuple(sorted(vars(error))), tuple(sorted(fields)), name)

    def test_an_error_as_a_field(self):
        inner = errors.Idle()
        rejected = errors.Rejected(2, inner)
        self.assertEqual(rejected.index, 2)
        self.assertIs(rejected.error, inner)

    def test_a_list_stays_the_same_list(self):
        passed = [1, [2]]
        error = errors.Against(passed, passed)
        self.assertIs(error.index, passed)
        self.assertIs(error.lot, passed)
        self.assertEqual(passed, [1, [2]])

    def test_raised_and_caught_with_their_fields(self):
        for name, fields in FIELDS.items():
            values = tuple(range(len(fields)))
            with self.assertRaises(getattr(errors, name)) as caught:
                raise made(name, values)
            self.assertEqual(tuple(getattr(caught.exception, field) for field in fields), values)

    def test_as_many_arguments_as_fields(self):
        for name, fields in FIELDS.items():
            if not fields:
                continue
            with self.assertRaises(TypeError):
                made(name, range(len(fields) - 1))
            with self.assertRaises(TypeError):
                made(name, range(len(fields) + 1))

    def test_shown_and_copied(self):
        for name, fields in FIELDS.items():
            for value in any_values():
                error = made(name, [value] * len(fields))
                self.assertIsInstance(str(error), str)
                again = copy.copy(error)
                self.assertIs(type(again), type(error))
                for field in fields:
                    self.assertIs(getattr(again, field), value)


class TestClasses(unittest.TestCase):
    def test_there_are_just_these(self):
        found = [name for name in vars(errors) if isinstance(getattr(errors, name), type)]
        self.assertEqual(sorted(found), sorted([*FIELDS, "KindError"]))

    def test_bases(self):
        self.assertEqual(KindError.__bases__, (ValueError,))
        for name in FIELDS:
            base = LookupError if name == "NoKind" else KindError
            self.assertEqual(getattr(errors, name).__bases__, (base,), name)

    def test_each_is_of_its_own_class_alone(self):
        for error in samples():
            of = [name for name in FIELDS if isinstance(error, getattr(errors, name))]
            self.assertEqual(of, [type(error).__name__])

    def test_the_twelve(self):
        twelve = [error for error in samples() if not isinstance(error, NoKind)]
        self.assertEqual(len(twelve), 12)
        for error in twelve:
            self.assertIsInstance(error, KindError)
            self.assertIsInstance(error, ValueError)
            self.assertNotIsInstance(error, LookupError)

    def test_no_kind(self):
        error = NoKind(7)
        self.assertIsInstance(error, LookupError)
        self.assertNotIsInstance(error, KindError)
        self.assertNotIsInstance(error, ValueError)
        self.assertNotIsInstance(error, (KeyError, IndexError))

    def test_kind_error(self):
        self.assertTrue(issubclass(KindError, ValueError))
        self.assertFalse(issubclass(KindError, LookupError))


if __name__ == "__main__":
    unittest.main()
