"""The interface, lodge/errors.py."""

import inspect
import unittest

from lodge import errors
from lodge.errors import (
    LodgeError, NoBits, NoEdges, NoFit, NoKey, NoKeys, NoRange, NoSuch, NoTry, NoValue, Stuck, Twice,
)

WITH_AT = [NoKey, Twice, NoBits, NoEdges, NoValue, NoFit]
WITHOUT_AT = [NoKeys, NoTry, NoRange, Stuck, NoSuch]


class ErrorsTest(unittest.TestCase):
    def test_lodge_error_stands_straight_under_value_error(self):
        self.assertEqual(LodgeError.__bases__, (ValueError,))

    def test_each_stands_straight_under_lodge_error(self):
        for error in WITH_AT + WITHOUT_AT:
            self.assertEqual(error.__bases__, (LodgeError,), error)

    def test_there_are_eleven_unlike_ones_and_no_other(self):
        found = [each for name, each in inspect.getmembers(errors, inspect.isclass)]
        self.assertEqual(len(set(WITH_AT + WITHOUT_AT)), 11)
        self.assertEqual(set(found), set(WITH_AT + WITHOUT_AT + [LodgeError]))

    def test_none_is_caught_as_another(self):
        for error in WITH_AT + WITHOUT_AT:
            for other in WITH_AT + WITHOUT_AT:
                self.assertEqual(issubclass(error, other), error is other, (error, other))

    def test_field_at_is_what_it_was_made_with(self):
        for error in WITH_AT:
            for at in (0, 1, 1999):
                with self.assertRaises(ValueError) as caught:
                    raise error(at)
                self.assertIs(caught.exception.__class__, error)
                self.assertEqual(repr(caught.exception.at), repr(at))

    def test_two_of_a_class_each_have_their_own_at(self):
        for error in WITH_AT:
            first, second = error(1), error(2)
            self.assertEqual((first.at, second.at), (1, 2))

    def test_others_have_no_field_at(self):
        for error in WITHOUT_AT:
            with self.assertRaises(LodgeError) as caught:
                raise error()
            self.assertFalse(hasattr(caught.exception, "at"), error)


if __name__ == "__main__":
    unittest.main()
