"""The refusals: tilldrawer/errors.py."""

import unittest

from tilldrawer import errors

NAMES = (
    "NoTill", "NoKind", "Twice", "NoCount", "NoSum",
    "TooLittle", "NoChange", "TooFew", "StillHeld", "NoDeed",
)


class Refusals(unittest.TestCase):
    def test_till_error_is_straight_under_value_error(self):
        self.assertEqual(errors.TillError.__bases__, (ValueError,))
        self.assertEqual(errors.TillError.__module__, "tilldrawer.errors")

    def test_each_refusal_is_straight_under_till_error(self):
        for name in NAMES:
            with self.subTest(name):
                refusal = getattr(errors, name)
                self.assertEqual(refusal.__bases__, (errors.TillError,))
                self.assertEqual(refusal.__name__, name)
                self.assertEqual(refusal.__module__, "tilldrawer.errors")

    def test_no_two_refusals_are_one(self):
        self.assertEqual(len({getattr(errors, name) for name in NAMES}), len(NAMES))

    def test_each_refusal_is_caught_by_its_own_name_and_the_names_above(self):
        for name in NAMES:
            refusal = getattr(errors, name)
            for caught in (refusal, errors.TillError, ValueError):
                with self.subTest(name, caught=caught.__name__):
                    with self.assertRaises(caught):
                        raise refusal("refused")

    def test_no_refusal_is_caught_by_the_name_of_another(self):
        for name in NAMES:
            for other in NAMES:
                if name != other:
                    self.assertFalse(issubclass(getattr(errors, name), getattr(errors, other)))


if __name__ == "__main__":
    unittest.main()
