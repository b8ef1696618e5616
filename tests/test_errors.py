"""Tests of leastplaces.errors: names, fields and base classes."""

import copy
import unittest

from leastplaces import errors
from samples import NOT_INTEGERS

# Each error class with its fields, in the order of the document.
LEAST_ERRORS = {
    "NoRows": (), "NotAlike": ("index",), "NotShape": (), "BadTargets": ("value",),
    "NoProperty": ("name",), "BadWish": ("value",), "BadSize": ("value",),
    "NoClaim": ("value",), "TooManyClaims": (), "Contradiction": ("ring",),
    "Needless": (), "TooManyEdits": (), "NothingToUndo": (), "BadEdits": (),
    "BadEdit": ("index",), "Rejected": ("index",), "Busy": (), "BadText": ("index",),
}
LOOKUP_ERRORS = {"NoWindow": ("value",), "NoIndex": ("value",), "NoVersion": ("value",)}
FIELDS = {**LEAST_ERRORS, **LOOKUP_ERRORS}

VALUES = NOT_INTEGERS + (0, 1, -1, 10 ** 39, ((0, 0), (1, 1)), object(), (1, 0))


def nested(depth):
    value = []
    for _ in range(depth):
        value = [value]
    return value


class FieldsTest(unittest.TestCase):

    def make(self, name, values):
        return getattr(errors, name)(*values)

    def test_fields_are_the_very_objects_in_order(self):
        for name, fields in FIELDS.items():
            for shift in range(len(VALUES)):
                values = [VALUES[(shift + k) % len(VALUES)] for k in range(len(fields))]
                error = self.make(name, values)
                for field, value in zip(fields, values):
                    self.assertIs(getattr(error, field), value, name)
                self.assertEqual(sorted(vars(error)), sorted(fields), name)

    def test_fields_that_are_fresh_objects(self):
        for name, fields in FIELDS.items():
            values = [[1, {"a": (2,)}] for _ in fields]
            before = copy.deepcopy(values)
            error = self.make(name, values)
            for field, value in zip(fields, values):
                self.assertIs(getattr(error, field), value, name)
            self.assertEqual(values, before, name)

    def test_fields_of_two_errors_are_apart(self):
        for name, fields in FIELDS.items():
            one = self.make(name, [1 for _ in fields])
            other = self.make(name, [2 for _ in fields])
            for field in fields:
                self.assertEqual((getattr(one, field), getattr(other, field)), (1, 2), name)

    def test_another_number_of_fields_is_refused(self):
        for name, fields in FIELDS.items():
            if fields:
                with self.assertRaises(TypeError):
                    self.make(name, [])
                with self.assertRaises(TypeError):
                    self.make(name, [1, 2])

    def test_showing_an_error_raises_nothing(self):
        for name, fields in FIELDS.items():
            for value in VALUES + (nested(20), list(range(1000)), "a" * 2000):
                error = self.make(name, [value for _ in fields])
                self.assertIsInstance(str(error), str)
                self.assertIsInstance(repr(error), str)

    def test_they_are_raised_and_caught_by_name(self):
        for name, fields in FIELDS.items():
            values = [object() for _ in fields]
            with self.assertRaises(getattr(errors, name)) as caught:
                raise self.make(name, values)
            for field, value in zip(fields, values):
                self.assertIs(getattr(caught.exception, field), value, name)


class BasesTest(unittest.TestCase):

    def test_the_base(self):
        self.assertTrue(issubclass(errors.LeastError, ValueError))
        self.assertFalse(issubclass(errors.LeastError, LookupError))
        self.assertIsInstance(errors.LeastError(), ValueError)

    def test_errors_below_the_base(self):
        for name in LEAST_ERRORS:
            kind = getattr(errors, name)
            self.assertTrue(issubclass(kind, errors.LeastError), name)
            self.assertTrue(issubclass(kind, ValueError), name)
            self.assertFalse(issubclass(kind, LookupError), name)

    def test_lookup_errors(self):
        for name in LOOKUP_ERRORS:
            kind = getattr(errors, name)
            self.assertTrue(issubclass(kind, LookupError), name)
            self.assertFalse(issubclass(kind, ValueError), name)
            self.assertFalse(issubclass(kind, errors.LeastError), name)

    def test_lookup_errors_are_no_key_or_index_errors(self):
        for name in LOOKUP_ERRORS:
            self.assertFalse(issubclass(getattr(errors, name), (KeyError, IndexError)), name)

    def test_none_derives_from_another(self):
        for name in FIELDS:
            for other in FIELDS:
                if name != other:
                    self.assertFalse(
                        issubclass(getattr(errors, name), getattr(errors, other)), (name, other))

    def test_each_has_its_own_name(self):
        for name in list(FIELDS) + ["LeastError"]:
            self.assertEqual(getattr(errors, name).__name__, name)


if __name__ == "__main__":
    unittest.main()
