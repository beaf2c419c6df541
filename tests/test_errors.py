import unittest

from common import REFUSALS
from fewspaces import errors


class Errors(unittest.TestCase):
    def test_space_error_stands_straight_under_value_error(self):
        self.assertEqual(errors.SpaceError.__bases__, (ValueError,))

    def test_each_refusal_stands_straight_under_space_error(self):
        for name in REFUSALS:
            self.assertEqual(getattr(errors, name).__bases__, (errors.SpaceError,), name)

    def test_none_stands_under_another(self):
        for one in REFUSALS:
            for other in REFUSALS:
                under = issubclass(getattr(errors, one), getattr(errors, other))
                self.assertEqual(under, one == other, (one, other))

    def test_each_is_made_with_a_text(self):
        for name in ["SpaceError"] + REFUSALS:
            self.assertEqual(str(getattr(errors, name)("why so")), "why so")


if __name__ == "__main__":
    unittest.main()
