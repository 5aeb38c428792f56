"""The classes of errors: TapError, and six under it, none under another."""

import unittest

from keyedtime import errors

MADE = [
    errors.BadTaps(3, "time"),
    errors.BadReading("no reading"),
    errors.BadWidth("no width"),
    errors.BadTable(2, "marks"),
    errors.BadWords("no words"),
    errors.BadText(7),
]


class ErrorsTest(unittest.TestCase):
    def test_each_is_a_tap_error_and_a_value_error(self):
        self.assertTrue(issubclass(errors.TapError, ValueError))
        for error in MADE:
            self.assertIsInstance(error, errors.TapError)
            self.assertIsInstance(error, ValueError)
            self.assertIs(type(error).__bases__[0], errors.TapError)

    def test_none_is_a_kind_of_another(self):
        for one in MADE:
            for other in MADE:
                self.assertEqual(isinstance(one, type(other)), one is other)

    def test_fields(self):
        taps, _, _, table, _, text = MADE
        self.assertEqual((taps.at, taps.why), (3, "time"))
        self.assertEqual((table.at, table.why), (2, "marks"))
        self.assertEqual(text.row, 7)

    def test_all_have_a_wording(self):
        for error in MADE:
            self.assertTrue(str(error))

    def test_defined_in_this_file(self):
        for error in MADE:
            self.assertEqual(type(error).__module__, "keyedtime.errors")


if __name__ == "__main__":
    unittest.main()
