"""Tests of farebreak.errors: the refusals and how they stand to each other."""

import unittest

from farebreak import errors

KINDS = (
    "BadPlace", "BadPrice", "TwiceTold", "TooMany", "BadJourney",
    "BadCuts", "NotHeld", "NoParting", "BadLine",
)


class ErrorsTest(unittest.TestCase):

    def test_any_refusal_is_a_value_error(self):
        self.assertEqual(errors.FareError.__bases__, (ValueError,))

    def test_each_kind_is_straight_under_fare_error(self):
        for name in KINDS:
            with self.subTest(name):
                self.assertEqual(getattr(errors, name).__bases__, (errors.FareError,))

    def test_no_kind_is_caught_as_another_one(self):
        for name in KINDS:
            for other in KINDS:
                with self.subTest(name=name, other=other):
                    under = issubclass(getattr(errors, name), getattr(errors, other))
                    self.assertEqual(under, name == other)

    def test_each_is_defined_in_its_file_under_its_name(self):
        for name in ("FareError",) + KINDS:
            with self.subTest(name):
                kind = getattr(errors, name)
                self.assertEqual(kind.__name__, name)
                self.assertEqual(kind.__module__, "farebreak.errors")

    def test_each_can_be_raised_with_words(self):
        for name in ("FareError",) + KINDS:
            with self.subTest(name):
                kind = getattr(errors, name)
                with self.assertRaises(ValueError) as caught:
                    raise kind("why")
                self.assertIs(type(caught.exception), kind)
                self.assertEqual(str(caught.exception), "why")


if __name__ == "__main__":
    unittest.main()
