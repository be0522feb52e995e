"""keyswithin.errors: the refusals and their fields."""

import unittest

from keyswithin import errors

OF_A_TEXT = (
    "NoHouse", "NoColour", "NoBoxes", "NoLaying", "NoNumber", "NoRow", "NoBox", "NoKey",
    "Locks", "Unlike", "Open", "Shut", "Full", "NothingLeft",
)


class Errors(unittest.TestCase):
    def test_any_refusal_is_a_value_error(self):
        self.assertEqual(errors.BoxError.__bases__, (ValueError,))

    def test_each_stands_straight_under_box_error(self):
        for name in OF_A_TEXT + ("TooMany", "Locked"):
            with self.subTest(name=name):
                error = getattr(errors, name)
                self.assertEqual(error.__bases__, (errors.BoxError,))
                self.assertEqual(error.__module__, "keyswithin.errors")

    def test_no_others(self):
        classes = [name for name, value in vars(errors).items() if isinstance(value, type)]
        self.assertEqual(sorted(classes), sorted(OF_A_TEXT + ("BoxError", "TooMany", "Locked")))

    def test_made_of_a_text(self):
        for name in OF_A_TEXT:
            with self.subTest(name=name):
                self.assertEqual(str(getattr(errors, name)("some words")), "some words")

    def test_made_of_their_field(self):
        self.assertEqual(errors.TooMany(10).most, 10)
        self.assertEqual(errors.TooMany(3).most, 3)
        self.assertEqual(errors.Locked("red").colour, "red")


if __name__ == "__main__":
    unittest.main()
