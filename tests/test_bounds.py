"""The values in bounds."""

import unittest

from basketrope import bounds


class Bounds(unittest.TestCase):
    def test_values(self):
        expected = {
            "LIMIT": 10 ** 8, "MAX_EXCESS": 10 ** 6, "MAX_WEIGHT": 10 ** 6, "MAX_PEOPLE": 24,
            "MAX_LOAD": 100, "SMALL": 8, "MAX_EDITS": 60, "BATCH": 20,
        }
        found = {name: getattr(bounds, name) for name in expected}
        self.assertEqual(found, expected)

    def test_they_are_ints(self):
        for name in dir(bounds):
            if name.isupper():
                self.assertIs(type(getattr(bounds, name)), int, name)


if __name__ == "__main__":
    unittest.main()
