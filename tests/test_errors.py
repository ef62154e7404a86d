"""The interface of tightrows.errors."""

import unittest

from tightrows import errors

NAMES = ("BadValue", "NoPacking", "BadBits", "NoRow", "BadQuestion", "NoColumn", "BadRow", "BadTable")


class Errors(unittest.TestCase):
    def test_any_refusal_is_a_value_error(self):
        self.assertTrue(issubclass(errors.RowsError, ValueError))

    def test_each_stands_straight_below_rows_error(self):
        for name in NAMES:
            self.assertEqual(getattr(errors, name).__bases__, (errors.RowsError,), name)

    def test_none_stands_below_another(self):
        classes = [getattr(errors, name) for name in NAMES]
        for one in classes:
            self.assertEqual([other for other in classes if issubclass(one, other)], [one])


if __name__ == "__main__":
    unittest.main()
