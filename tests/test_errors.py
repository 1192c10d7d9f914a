"""The interface's section atleast/errors.py."""

import unittest

from atleast import errors
from atleast.errors import NoLine, NoRow, NoUnknown, NoValues, NoWay, NoWeights, RowError

REFUSALS = (NoRow, NoUnknown, NoWeights, NoValues, NoWay, NoLine)


class TestErrors(unittest.TestCase):
    def test_row_error_stands_under_value_error(self):
        self.assertEqual(RowError.__bases__, (ValueError,))

    def test_each_refusal_stands_under_row_error(self):
        for refusal in REFUSALS:
            self.assertEqual(refusal.__bases__, (RowError,), refusal)

    def test_each_refusal_has_its_own_name(self):
        for name in ("RowError", "NoRow", "NoUnknown", "NoWeights", "NoValues", "NoWay", "NoLine"):
            self.assertEqual(getattr(errors, name).__name__, name)

    def test_refusals_are_caught_by_every_class_above_and_no_other(self):
        for refusal in REFUSALS:
            for above in (refusal, RowError, ValueError):
                with self.assertRaises(above):
                    raise refusal("words")
            for other in REFUSALS:
                self.assertEqual(issubclass(refusal, other), refusal is other)


if __name__ == "__main__":
    unittest.main()
