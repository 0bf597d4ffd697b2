import unittest

from slipcurve import errors

NAMES = [
    "TooFew", "NoCurve", "NoPaper", "NoPlace", "NoNumber",
    "Heard", "NotHeard", "NothingLeft", "NoText", "NoRow",
]


class Errors(unittest.TestCase):
    def test_slip_error_stands_under_value_error(self):
        self.assertTrue(issubclass(errors.SlipError, ValueError))

    def test_each_stands_under_slip_error_only(self):
        for name in NAMES:
            self.assertTrue(issubclass(getattr(errors, name), errors.SlipError), name)
            self.assertNotEqual(getattr(errors, name), errors.SlipError, name)

    def test_none_stands_under_another_one(self):
        for name in NAMES:
            for other in NAMES:
                if name != other:
                    self.assertFalse(issubclass(getattr(errors, name), getattr(errors, other)), (name, other))

    def test_each_is_raised_and_caught_as_a_refusal(self):
        for name in NAMES:
            with self.assertRaises(errors.SlipError):
                raise getattr(errors, name)("why")


if __name__ == "__main__":
    unittest.main()
