"""The error classes: their bases and their fields."""

import unittest

from basketrope import errors
from tests.samples import odd_values

# Each error below RopeError with its field, or None if it has none.
ROPE_ERRORS = {
    "TooLarge": "bound", "BadLoad": "value", "TooMuch": None, "Missing": "weight", "BadExcess": "value",
    "BadTower": "error", "Busy": None, "TooManyEdits": None, "BadWeight": "value", "TooManyPeople": None,
    "NothingToUndo": None, "BadEdits": None, "BadEdit": "index", "Rejected": "index", "BadGroup": "value",
    "BadNumber": "value", "TooLow": "number", "BadText": "index",
}
LOOKUP_ERRORS = {"NoPlace": "value", "NoPerson": "value", "NoVersion": "value"}
ALL_ERRORS = {**ROPE_ERRORS, **LOOKUP_ERRORS}


def built(name, value):
    """Return an error of the class, made from the value if it has a field."""
    shape = getattr(errors, name)
    return shape() if ALL_ERRORS[name] is None else shape(value)


class Bases(unittest.TestCase):
    def test_rope_error(self):
        self.assertEqual(errors.RopeError.__bases__, (ValueError,))
        self.assertFalse(issubclass(errors.RopeError, LookupError))
        with self.assertRaises(ValueError):
            raise errors.RopeError()

    def test_errors_below_rope_error(self):
        for name in ROPE_ERRORS:
            shape = getattr(errors, name)
            self.assertTrue(issubclass(shape, errors.RopeError), name)
            self.assertTrue(issubclass(shape, ValueError), name)
            self.assertFalse(issubclass(shape, LookupError), name)

    def test_errors_of_looking_up(self):
        for name in LOOKUP_ERRORS:
            shape = getattr(errors, name)
            self.assertTrue(issubclass(shape, LookupError), name)
            self.assertFalse(issubclass(shape, ValueError), name)
            self.assertFalse(issubclass(shape, (KeyError, IndexError)), name)

    def test_none_derives_from_another_one(self):
        for name in ALL_ERRORS:
            for other in ALL_ERRORS:
                derives = issubclass(getattr(errors, name), getattr(errors, other))
                self.assertEqual(derives, name == other, (name, other))

    def test_names(self):
        for name in [*ALL_ERRORS, "RopeError"]:
            shape = getattr(errors, name)
            self.assertEqual((shape.__name__, shape.__module__), (name, "basketrope.errors"))


class Fields(unittest.TestCase):
    def test_fields_are_what_was_passed(self):
        for name, field in ALL_ERRORS.items():
            if field is not None:
                for value in [*odd_values(), (None, "excess"), 2, -3]:
                    kept = repr(value)
                    error = built(name, value)
                    self.assertIs(getattr(error, field), value, (name, value))
                    self.assertEqual(vars(error), {field: value}, name)
                    self.assertEqual(repr(value), kept)

    def test_errors_without_fields(self):
        for name, field in ALL_ERRORS.items():
            if field is None:
                self.assertEqual(vars(built(name, None)), {}, name)

    def test_each_object_has_its_own_fields(self):
        one = errors.BadEdit(1)
        other = errors.BadEdit(True)
        third = errors.BadEdit(1)
        self.assertEqual(repr([one.index, other.index, third.index]), "[1, True, 1]")

    def test_a_field_is_needed(self):
        for name, field in ALL_ERRORS.items():
            if field is not None:
                with self.assertRaises(TypeError):
                    getattr(errors, name)()
                with self.assertRaises(TypeError):
                    getattr(errors, name)(1, 2)

    def test_raised_and_caught(self):
        for name, field in ALL_ERRORS.items():
            with self.assertRaises(getattr(errors, name)) as caught:
                raise built(name, (1, [2]))
            if field is not None:
                self.assertEqual(getattr(caught.exception, field), (1, [2]), name)

    def test_every_error_can_be_shown(self):
        for name in ALL_ERRORS:
            for value in odd_values():
                error = built(name, value)
                self.assertIsInstance(str(error), str)
                self.assertIn(name, repr(error))


if __name__ == "__main__":
    unittest.main()
