"""The refusals that the interface lists."""

import unittest

from denseround.errors import BadOrder, BadText, BadYard, TooMany, YardError


class Errors(unittest.TestCase):
    def test_each_stands_straight_under_yard_error(self):
        self.assertEqual(YardError.__bases__, (ValueError,))
        for refusal in (BadYard, BadOrder, TooMany, BadText):
            self.assertEqual(refusal.__bases__, (YardError,))

    def test_bad_yard_has_at_and_why(self):
        refusal = BadYard(3, "twice")
        self.assertEqual((refusal.at, refusal.why), (3, "twice"))

    def test_bad_text_has_row(self):
        self.assertEqual(BadText(4).row, 4)

    def test_each_is_raised_and_caught_as_yard_error(self):
        for refusal in (BadYard(0, "many"), BadOrder("x"), TooMany("x"), BadText(0)):
            with self.assertRaises(YardError):
                raise refusal


if __name__ == "__main__":
    unittest.main()
