"""Point 3: which error derives from which."""

import unittest

from meridian import errors


class ErrorsTest(unittest.TestCase):

    def test_each_error_derives_directly_from_its_base(self):
        bases = {
            errors.MeridianError: ValueError,
            errors.BadArgument: errors.MeridianError,
            errors.BadBytes: errors.MeridianError,
            errors.BadSeal: errors.BadBytes,
            errors.Refused: errors.MeridianError,
        }
        for error, base in bases.items():
            self.assertEqual(error.__bases__, (base,))

    def test_kinds_of_failure_are_told_apart(self):
        self.assertTrue(issubclass(errors.BadArgument, errors.MeridianError))
        self.assertTrue(issubclass(errors.BadArgument, ValueError))
        self.assertFalse(issubclass(errors.BadArgument, errors.BadBytes))
        self.assertFalse(issubclass(errors.BadBytes, errors.BadArgument))
        self.assertFalse(issubclass(errors.BadBytes, errors.BadSeal))
        self.assertTrue(issubclass(errors.BadSeal, errors.BadBytes))
        self.assertFalse(issubclass(errors.Refused, errors.BadArgument))
        self.assertFalse(issubclass(errors.Refused, errors.BadBytes))

    def test_an_error_says_its_message(self):
        for error in (errors.BadArgument, errors.BadBytes, errors.BadSeal, errors.Refused):
            self.assertEqual(str(error("why")), "why")


if __name__ == "__main__":
    unittest.main()
