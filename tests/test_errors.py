"""Each refusal is an error class of its own, right under HueError."""

import unittest

from hueshare.errors import HueError, NoFold, NoNumber, NoPlace, NoRow, NoText, NoTie, NoWants, NoWeb, TooMany

REFUSALS = [NoWeb, NoPlace, NoTie, NoWants, NoFold, NoNumber, TooMany, NoText, NoRow]


class ErrorsTest(unittest.TestCase):
    def test_hue_error_is_right_under_value_error(self):
        self.assertEqual(HueError.__bases__, (ValueError,))

    def test_each_is_right_under_hue_error(self):
        for refusal in REFUSALS:
            with self.subTest(refusal=refusal):
                self.assertEqual(refusal.__bases__, (HueError,))

    def test_each_is_one_of_its_own(self):
        self.assertEqual(len(set(REFUSALS)), 9)
        for refusal in REFUSALS:
            with self.subTest(refusal=refusal):
                self.assertEqual([other for other in REFUSALS if issubclass(refusal, other)], [refusal])

    def test_each_bears_its_name(self):
        names = "NoWeb NoPlace NoTie NoWants NoFold NoNumber TooMany NoText NoRow".split()
        self.assertEqual([refusal.__name__ for refusal in REFUSALS], names)
        self.assertEqual(HueError.__name__, "HueError")

    def test_each_is_made_of_a_text(self):
        for refusal in REFUSALS + [HueError]:
            with self.subTest(refusal=refusal):
                self.assertEqual(str(refusal("some words")), "some words")


if __name__ == "__main__":
    unittest.main()
