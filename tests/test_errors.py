import unittest

from jointhold import errors

REFUSALS = (
    "BadNames",
    "BadGroup",
    "Unknown",
    "Dead",
    "NotGranted",
    "GrantedBefore",
    "NoPart",
    "NotHeld",
    "BadPiece",
    "TooManyParts",
    "TooManyDeeds",
    "NothingDone",
)


class ErrorsTest(unittest.TestCase):
    def test_base_stands_straight_under_value_error(self):
        self.assertEqual(errors.JointholdError.__bases__, (ValueError,))

    def test_each_refusal_stands_straight_under_the_base(self):
        for name in REFUSALS:
            with self.subTest(name=name):
                self.assertEqual(getattr(errors, name).__bases__, (errors.JointholdError,))

    def test_each_class_bears_its_own_name(self):
        for name in REFUSALS + ("JointholdError",):
            with self.subTest(name=name):
                self.assertEqual(getattr(errors, name).__name__, name)

    def test_no_refusal_stands_under_another(self):
        for name in REFUSALS:
            for other in REFUSALS:
                if name != other:
                    with self.subTest(name=name, other=other):
                        self.assertFalse(issubclass(getattr(errors, name), getattr(errors, other)))

    def test_each_refusal_can_be_raised_with_words_and_without(self):
        for name in REFUSALS:
            with self.subTest(name=name):
                refusal = getattr(errors, name)
                with self.assertRaises(errors.JointholdError):
                    raise refusal("some words")
                with self.assertRaises(ValueError):
                    raise refusal()


if __name__ == "__main__":
    unittest.main()
