"""The errors of the interface and their values."""

import unittest

from callpact import errors

PLAIN_ONES = ("BadNumber", "TooMany", "NotLet", "BadStates", "BadGiven", "BadFuel", "BadNoise",
              "BadSaves")


class Errors(unittest.TestCase):
    def test_a_refusal_is_a_value_error(self):
        self.assertEqual(errors.PactError.__bases__, (ValueError,))

    def test_each_error_is_a_refusal_of_its_own(self):
        for name in PLAIN_ONES + ("BadProgram", "BadText"):
            with self.subTest(name):
                self.assertEqual(getattr(errors, name).__bases__, (errors.PactError,))

    def test_each_error_is_defined_in_its_file(self):
        for name in PLAIN_ONES + ("PactError", "BadProgram", "BadText"):
            self.assertEqual(getattr(errors, name).__module__, "callpact.errors")

    def test_plain_ones_take_a_message(self):
        for name in PLAIN_ONES:
            self.assertEqual(str(getattr(errors, name)("so")), "so")

    def test_bad_program_has_its_values(self):
        fault = errors.BadProgram("row", 2, 31)
        self.assertEqual((fault.word, fault.number, fault.row), ("row", 2, 31))

    def test_bad_text_has_its_line(self):
        self.assertEqual(errors.BadText(7).line, 7)


if __name__ == "__main__":
    unittest.main()
