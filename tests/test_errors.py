"""The refusals that the interface lists."""

import unittest

from mixserver import errors

PLAIN = ("BadSoft", "BadName", "There", "NoVoice", "BadPace", "BadWait", "BadParcel", "BadEnd", "BadLead", "BadBounds")
WITH_NUMBER = ("BadArrivals", "BadDeed")


class Errors(unittest.TestCase):
    def test_any_refusal_is_a_value_error(self):
        self.assertEqual(errors.MixError.__bases__, (ValueError,))

    def test_each_stands_straight_under_mix_error(self):
        for name in PLAIN + WITH_NUMBER + ("BadText",):
            self.assertEqual(getattr(errors, name).__bases__, (errors.MixError,), name)
            self.assertEqual(getattr(errors, name).__module__, "mixserver.errors")

    def test_plain_ones_take_a_text(self):
        for name in PLAIN:
            with self.assertRaises(errors.MixError) as caught:
                raise getattr(errors, name)("why")
            self.assertEqual(str(caught.exception), "why")

    def test_numbers_are_kept(self):
        for name in WITH_NUMBER:
            for number in (0, 30, 300):
                self.assertEqual(getattr(errors, name)(number).number, number)

    def test_row_is_kept(self):
        self.assertEqual(errors.BadText(0).row, 0)
        self.assertEqual(errors.BadText(300).row, 300)


if __name__ == "__main__":
    unittest.main()
