"""Tests of rightrows.errors: the classes, their bases and their fields."""

import unittest

from rightrows import errors
from rightrows.errors import InvalidLine, InvalidWord, Refused, RightrowsError, TooManyVersions, UnknownVersion

NUMBERED = (UnknownVersion, InvalidLine, InvalidWord)


class ErrorsTest(unittest.TestCase):

    def test_base_class_is_a_value_error(self):
        self.assertEqual(RightrowsError.__bases__, (ValueError,))

    def test_all_errors_stand_directly_below_the_base_class(self):
        for error in NUMBERED + (TooManyVersions,):
            with self.subTest(error=error.__name__):
                self.assertEqual(error.__bases__, (RightrowsError,))

    def test_errors_are_defined_in_their_file(self):
        for error in NUMBERED + (TooManyVersions, RightrowsError):
            with self.subTest(error=error.__name__):
                self.assertEqual(error.__module__, "rightrows.errors")
                self.assertIs(getattr(errors, error.__name__), error)

    def test_number_is_a_field(self):
        for error in NUMBERED:
            for number in (0, 1, 20, 10 ** 5000):
                with self.subTest(error=error.__name__):
                    self.assertEqual(error(number).number, number)

    def test_number_is_wanted(self):
        for error in NUMBERED:
            with self.subTest(error=error.__name__), self.assertRaises(TypeError):
                error()

    def test_numbers_of_two_errors_are_apart(self):
        first, second = InvalidLine(3), InvalidLine(4)
        self.assertEqual((first.number, second.number), (3, 4))

    def test_errors_without_a_number(self):
        self.assertFalse(hasattr(TooManyVersions(), "number"))
        self.assertFalse(hasattr(RightrowsError(), "number"))

    def test_refusal_has_a_word_and_a_number(self):
        refusal = Refused("digest", 4)
        self.assertEqual((refusal.word, refusal.number), ("digest", 4))
        self.assertEqual(Refused.__bases__, (RightrowsError,))

    def test_errors_are_caught_by_their_own_class_and_the_base_class(self):
        for error in (UnknownVersion(7), TooManyVersions(), InvalidLine(0), InvalidWord(2)):
            for caught in (error.__class__, RightrowsError, ValueError):
                with self.subTest(error=error, caught=caught), self.assertRaises(caught):
                    raise error

    def test_no_error_is_caught_as_another_one(self):
        self.assertNotIsInstance(UnknownVersion(7), (TooManyVersions, InvalidLine, InvalidWord))
        self.assertNotIsInstance(InvalidLine(7), (TooManyVersions, UnknownVersion, InvalidWord))
        self.assertNotIsInstance(InvalidWord(7), (TooManyVersions, UnknownVersion, InvalidLine))


if __name__ == "__main__":
    unittest.main()
