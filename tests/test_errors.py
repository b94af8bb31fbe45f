"""The refusals: what they stand under, and what they hold."""

import unittest

from handways.errors import BadCells, BadProgram, BadText, BadWays, HandError

REFUSALS = (BadProgram, BadWays, BadCells, BadText)


def made(refusal):
    return refusal(3) if refusal is BadText else refusal("why")


class Errors(unittest.TestCase):
    def test_hand_error_is_straight_under_value_error(self):
        self.assertEqual(HandError.__bases__, (ValueError,))

    def test_each_is_straight_under_hand_error(self):
        for refusal in REFUSALS:
            self.assertEqual(refusal.__bases__, (HandError,))

    def test_each_is_a_hand_error_and_a_value_error_and_none_of_the_others(self):
        for refusal in REFUSALS:
            error = made(refusal)
            self.assertIsInstance(error, HandError)
            self.assertIsInstance(error, ValueError)
            for other in REFUSALS:
                self.assertEqual(isinstance(error, other), other is refusal)

    def test_bad_text_has_its_row(self):
        self.assertEqual(BadText(0).row, 0)
        self.assertEqual(BadText(7).row, 7)

    def test_each_has_a_wording(self):
        for refusal in REFUSALS:
            self.assertNotEqual(str(made(refusal)), "")


if __name__ == "__main__":
    unittest.main()
