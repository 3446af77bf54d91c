"""Tests of the exceptions of the package."""

import unittest

from blockpiles import errors

NAMES = (
    "InvalidPile", "InvalidBlock", "InvalidNumber", "InvalidContact", "InvalidPlace", "InvalidBounds",
    "InvalidHeld", "InvalidSide", "InvalidTower", "InvalidProps", "InvalidOffers", "Tips", "Stands",
    "Inside", "TooMany", "NothingToUndo", "ParseError",
)


class ErrorsTest(unittest.TestCase):
    def test_base_class(self):
        self.assertEqual(errors.PileError.__bases__, (ValueError,))

    def test_direct_subclasses_under_their_names(self):
        for name in NAMES:
            with self.subTest(name):
                error = getattr(errors, name)
                self.assertEqual(error.__name__, name)
                self.assertEqual(error.__bases__, (errors.PileError,))

    def test_no_exceptions_but_these(self):
        found = {error.__name__ for error in errors.PileError.__subclasses__()}
        self.assertEqual(found, set(NAMES))
        self.assertEqual(len(NAMES), 17)

    def test_defined_in_their_file(self):
        for name in NAMES + ("PileError",):
            self.assertEqual(getattr(errors, name).__module__, "blockpiles.errors")

    def test_none_is_caught_by_another_name(self):
        for name in NAMES:
            for other in NAMES:
                related = issubclass(getattr(errors, name), getattr(errors, other))
                self.assertEqual(related, name == other)

    def test_raised_with_a_message(self):
        with self.assertRaises(ValueError) as caught:
            raise errors.Tips("why")
        self.assertEqual(str(caught.exception), "why")


if __name__ == "__main__":
    unittest.main()
