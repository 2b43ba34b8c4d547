"""The refusals: [0.4]."""

import unittest

from oldhands import errors

NAMES = (
    "BadKind", "BadValue", "BadPath", "BadTurn", "BadPiece", "BadVersion",
    "BadText", "BadQuestion", "NoRecord", "Taken", "NoDeed", "Full",
)


class ErrorsTest(unittest.TestCase):
    def test_the_head_stands_straight_under_value_error(self):
        self.assertEqual(errors.HandError.__bases__, (ValueError,))

    def test_each_stands_straight_under_the_head(self):
        self.assertEqual(len(NAMES), 12)
        for name in NAMES:
            with self.subTest(name=name):
                found = getattr(errors, name)
                self.assertEqual(found.__name__, name)
                self.assertEqual(found.__bases__, (errors.HandError,))
                self.assertTrue(issubclass(found, ValueError))

    def test_none_stands_under_another_one(self):
        for name in NAMES:
            for other in NAMES:
                if name != other:
                    with self.subTest(name=name, other=other):
                        self.assertFalse(issubclass(getattr(errors, name), getattr(errors, other)))

    def test_each_is_made_of_a_text(self):
        for name in NAMES + ("HandError",):
            with self.subTest(name=name):
                made = getattr(errors, name)("some words")
                self.assertIsInstance(made, ValueError)
                self.assertEqual(str(made), "some words")


if __name__ == "__main__":
    unittest.main()
