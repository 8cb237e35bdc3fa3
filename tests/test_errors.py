"""Point 3 and the interface of dipmaps/errors.py."""

import unittest

from dipmaps import errors

NAMES = ["BadName", "Known", "NoCloth", "NoBath", "NoShade", "BadBook", "BadText",
         "TooLong", "NoDay", "Late", "NoDip", "Full"]


class Errors(unittest.TestCase):

    def test_dip_error_stands_under_value_error(self):
        self.assertTrue(issubclass(errors.DipError, ValueError))
        self.assertIsNot(errors.DipError, ValueError)

    def test_every_refusal_stands_under_dip_error(self):
        for name in NAMES:
            with self.subTest(name):
                refusal = getattr(errors, name)
                self.assertTrue(issubclass(refusal, errors.DipError))
                self.assertTrue(issubclass(refusal, ValueError))
                self.assertIsNot(refusal, errors.DipError)
                self.assertEqual(refusal.__name__, name)

    def test_no_refusal_stands_under_another(self):
        for one in NAMES:
            for other in NAMES:
                if one != other:
                    with self.subTest(one=one, other=other):
                        self.assertFalse(issubclass(getattr(errors, one), getattr(errors, other)))

    def test_each_can_be_raised_and_taken_as_a_dip_error(self):
        for name in NAMES:
            with self.subTest(name), self.assertRaises(errors.DipError):
                raise getattr(errors, name)("why")


if __name__ == "__main__":
    unittest.main()
