"""[0.3] The refusals."""

import unittest

from rillturn import errors

NAMES = [
    "TooMany", "There", "NoTie", "NoSpring", "NoMouth", "Apart", "SamePlace", "NoText", "NoRow", "NoPlace", "NoFall",
    "NoPast",
]


class Refusals(unittest.TestCase):
    def test_rill_error_stands_straight_beneath_value_error(self):
        self.assertEqual(errors.RillError.__bases__, (ValueError,))

    def test_each_stands_straight_beneath_rill_error(self):
        for name in NAMES:
            self.assertEqual(getattr(errors, name).__bases__, (errors.RillError,), name)

    def test_none_stands_beneath_another(self):
        for name in NAMES:
            for other in NAMES:
                beneath = issubclass(getattr(errors, name), getattr(errors, other))
                self.assertEqual(beneath, name == other, (name, other))

    def test_each_is_made_of_a_text(self):
        for name in NAMES + ["RillError"]:
            made = getattr(errors, name)("some words")
            self.assertEqual(str(made), "some words", name)

    def test_the_refusals_are_these(self):
        found = [name for name, thing in vars(errors).items() if isinstance(thing, type)]
        self.assertEqual(sorted(found), sorted(NAMES + ["RillError"]))


if __name__ == "__main__":
    unittest.main()
