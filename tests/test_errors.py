"""The interface's thingdeal/errors.py."""

import unittest

from refusals import KINDS
from thingdeal import errors


class ErrorsTest(unittest.TestCase):
    def test_deal_error_is_straight_under_value_error(self):
        self.assertEqual(errors.DealError.__bases__, (ValueError,))

    def test_each_kind_is_straight_under_deal_error(self):
        for name in KINDS:
            with self.subTest(name):
                self.assertEqual(getattr(errors, name).__bases__, (errors.DealError,))

    def test_no_kind_is_another_one(self):
        for name in KINDS:
            for other in KINDS:
                with self.subTest(name=name, other=other):
                    is_under = issubclass(getattr(errors, name), getattr(errors, other))
                    self.assertEqual(is_under, name == other)

    def test_each_can_be_raised_and_caught_as_any_refusal(self):
        for name in KINDS + ["DealError"]:
            with self.subTest(name):
                with self.assertRaises(errors.DealError):
                    raise getattr(errors, name)("why")
                with self.assertRaises(ValueError):
                    raise getattr(errors, name)("why")

    def test_they_are_defined_in_this_file(self):
        for name in KINDS + ["DealError"]:
            self.assertEqual(getattr(errors, name).__module__, "thingdeal.errors")
            self.assertEqual(getattr(errors, name).__name__, name)


if __name__ == "__main__":
    unittest.main()
