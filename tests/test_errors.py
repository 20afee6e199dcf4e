"""The interface, frothwane/errors.py."""

import unittest

from frothwane import errors

NAMES = [
    "BadBegin", "NoFilm", "NoEnd", "Looped", "OneBubble", "NotOne", "SameFilm", "BadGas",
    "Full", "BadTime", "NoBubble", "NoHour", "NoOrder", "NoBack", "NoForth", "NoStand",
]


class ErrorsTest(unittest.TestCase):
    def test_any_refusal_is_a_value_error(self):
        self.assertTrue(issubclass(errors.FrothError, ValueError))

    def test_each_is_a_froth_error(self):
        self.assertEqual(16, len(NAMES))
        for name in NAMES:
            with self.subTest(name):
                found = getattr(errors, name)
                self.assertTrue(issubclass(found, errors.FrothError))
                self.assertTrue(issubclass(found, ValueError))
                self.assertIsNot(found, errors.FrothError)

    def test_each_has_its_own_name(self):
        for name in NAMES + ["FrothError"]:
            with self.subTest(name):
                self.assertEqual(name, getattr(errors, name).__name__)

    def test_none_is_under_another_one(self):
        for name in NAMES:
            for second in NAMES:
                if name != second:
                    with self.subTest((name, second)):
                        self.assertFalse(issubclass(getattr(errors, name), getattr(errors, second)))

    def test_froth_error_is_none_of_them(self):
        for name in NAMES:
            with self.subTest(name):
                self.assertFalse(issubclass(errors.FrothError, getattr(errors, name)))

    def test_each_is_made_with_one_text(self):
        for name in NAMES + ["FrothError"]:
            with self.subTest(name):
                made = getattr(errors, name)("a text")
                self.assertIsInstance(made, errors.FrothError)
                with self.assertRaises(getattr(errors, name)):
                    raise made

    def test_none_is_caught_as_another_one(self):
        for name in NAMES:
            for second in NAMES:
                if name != second:
                    made = getattr(errors, name)("a text")
                    with self.subTest((name, second)):
                        self.assertNotIsInstance(made, getattr(errors, second))


if __name__ == "__main__":
    unittest.main()
