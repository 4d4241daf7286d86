"""The refusals, as the interface lists them."""

import unittest

from ringbar import errors
from ringbar.errors import (
    BadBar, BadChest, BadNumber, BadRow, BadSetting, NoMove, NoNote, RingError, TooMany,
)

EIGHT = [BadBar, BadSetting, BadChest, BadRow, BadNumber, NoMove, TooMany, NoNote]


class ErrorsTest(unittest.TestCase):
    def test_any_refusal_is_a_value_error(self):
        self.assertEqual(RingError.__bases__, (ValueError,))

    def test_each_of_the_eight_is_straight_under_it(self):
        for one in EIGHT:
            self.assertEqual(one.__bases__, (RingError,))

    def test_none_is_under_another(self):
        for one in EIGHT:
            for other in EIGHT:
                self.assertEqual(issubclass(one, other), one is other)

    def test_each_is_defined_there_under_its_name(self):
        names = ["RingError", "BadBar", "BadSetting", "BadChest", "BadRow", "BadNumber", "NoMove", "TooMany", "NoNote"]
        for name in names:
            self.assertEqual(getattr(errors, name).__name__, name)
            self.assertEqual(getattr(errors, name).__module__, "ringbar.errors")

    def test_each_is_raised_and_caught_as_any_refusal(self):
        for one in EIGHT:
            with self.assertRaises(RingError):
                raise one("why")


if __name__ == "__main__":
    unittest.main()
