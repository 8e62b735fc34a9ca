"""heldflows/errors.py."""

import unittest

from heldflows.errors import BadBytes, BadCall, BadSchedule, HeldError


class ErrorsTest(unittest.TestCase):
    def test_each_error_is_a_held_error_and_a_value_error(self):
        for error in (HeldError(), BadBytes(), BadCall(), BadSchedule(3)):
            with self.subTest(error=error):
                self.assertIsInstance(error, HeldError)
                self.assertIsInstance(error, ValueError)

    def test_the_errors_are_different(self):
        self.assertNotIsInstance(BadBytes(), (BadCall, BadSchedule))
        self.assertNotIsInstance(BadCall(), (BadBytes, BadSchedule))
        self.assertNotIsInstance(BadSchedule(1), (BadBytes, BadCall))

    def test_bad_schedule_keeps_its_line(self):
        for line in (0, 1, 7, 10000):
            self.assertEqual(BadSchedule(line).line, line)
        with self.assertRaises(HeldError) as caught:
            raise BadSchedule(7)
        self.assertEqual(caught.exception.line, 7)

    def test_errors_take_what_the_interface_lists(self):
        self.assertRaises(TypeError, BadSchedule)
        self.assertRaises(TypeError, BadSchedule, 1, 2)

    def test_errors_are_defined_in_their_file(self):
        for error in (HeldError, BadBytes, BadCall, BadSchedule):
            self.assertEqual(error.__module__, "heldflows.errors")


if __name__ == "__main__":
    unittest.main()
