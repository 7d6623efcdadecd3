"""The classes of refusals (point 5, and the interface under errors)."""

import unittest

from cheapcovers import errors

REFUSALS = (
    "NoStock", "NoOffer", "NoThing", "NoCover", "NoPaper", "NoNumber", "NotFull", "NotInRow", "NoText", "NoRow",
    "TooMany",
)


class ErrorClasses(unittest.TestCase):
    def test_cover_error_stands_straight_under_value_error(self):
        self.assertEqual(errors.CoverError.__bases__, (ValueError,))

    def test_each_refusal_stands_straight_under_cover_error(self):
        for name in REFUSALS:
            with self.subTest(name):
                self.assertEqual(getattr(errors, name).__bases__, (errors.CoverError,))

    def test_none_stands_under_another_one(self):
        for name in REFUSALS:
            for other in REFUSALS:
                with self.subTest(name, other=other):
                    under = issubclass(getattr(errors, name), getattr(errors, other))
                    self.assertEqual(under, name == other)

    def test_each_goes_by_its_own_name(self):
        for name in REFUSALS + ("CoverError",):
            self.assertEqual(getattr(errors, name).__name__, name)

    def test_each_is_made_with_a_text(self):
        for name in REFUSALS + ("CoverError",):
            with self.subTest(name):
                error = getattr(errors, name)("some words")
                self.assertEqual(str(error), "some words")
                with self.assertRaises(ValueError):
                    raise error


if __name__ == "__main__":
    unittest.main()
