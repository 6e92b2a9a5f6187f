"""[5] Errors."""

import unittest

from helpers import Unfriendly
from neverregret import errors

WITH_AT = ("InvalidTable", "InvalidStock", "InvalidBounds", "InvalidRow", "InvalidPaper")
WITH_WORD = ("InvalidNumber", "Refused", "Broken")


class ErrorsTest(unittest.TestCase):
    def test_bases(self):
        self.assertEqual((ValueError,), errors.DeskError.__bases__)
        for name in WITH_AT + WITH_WORD + ("InvalidText",):
            self.assertEqual((errors.DeskError,), getattr(errors, name).__bases__, name)
        self.assertIsInstance(errors.DeskError(), ValueError)

    def test_any_values(self):
        for value in (3, -2, "kind", None, (1, [2]), Unfriendly()):
            for name in WITH_AT:
                self.assertIs(value, getattr(errors, name)(value).at)
                self.assertIs(value, getattr(errors, name)(at=value).at)
            for name in WITH_WORD:
                self.assertIs(value, getattr(errors, name)(value).word)
                self.assertIs(value, getattr(errors, name)(word=value).word)
            error = errors.InvalidText(value, 7)
            self.assertIs(value, error.line)
            self.assertEqual(7, error.at)
            self.assertIs(value, errors.InvalidText(at=value, line=1).at)

    def test_are_raised_and_caught(self):
        for name in WITH_AT + WITH_WORD:
            with self.assertRaises(errors.DeskError):
                raise getattr(errors, name)("what")


if __name__ == "__main__":
    unittest.main()
