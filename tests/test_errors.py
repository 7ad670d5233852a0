"""The refusals of the interface."""

import unittest

from samples import REFUSALS
from twinriddles import errors


class Refusals(unittest.TestCase):
    def test_there_are_eleven_classes(self):
        found = sorted(name for name, value in vars(errors).items() if isinstance(value, type))
        self.assertEqual(found, sorted([
            "RiddleError", "NoName", "NoBit", "NoTurning", "NoAnswer", "NoNumber",
            "NoClause", "NoPutting", "TooMany", "NoRiddle", "BadNote",
        ]))

    def test_what_stands_under_what(self):
        self.assertEqual(errors.RiddleError.__bases__, (ValueError,))
        for refusal in REFUSALS:
            self.assertEqual(refusal.__bases__, (errors.RiddleError,))

    def test_none_stands_under_another(self):
        for one in REFUSALS:
            for other in REFUSALS:
                self.assertEqual(issubclass(one, other), one is other)

    def test_each_is_made_with_a_text(self):
        for refusal in REFUSALS + (errors.RiddleError,):
            self.assertEqual(str(refusal("why")), "why")
            with self.assertRaises(ValueError):
                raise refusal("why")


if __name__ == "__main__":
    unittest.main()
