"""The refusals: boundwatch.errors, point 5."""

import unittest

from boundwatch.errors import BadRow, BadShelves, BoundError


class ErrorsTest(unittest.TestCase):
    def test_bad_shelves_is_caught_as_bound_error_and_value_error(self):
        for caught in (BadShelves, BoundError, ValueError):
            with self.assertRaises(caught):
                raise BadShelves("five shelves")

    def test_bad_row_is_caught_as_bound_error_and_value_error(self):
        for caught in (BadRow, BoundError, ValueError):
            with self.assertRaises(caught):
                raise BadRow(3)

    def test_bound_error_is_caught_as_value_error(self):
        with self.assertRaises(ValueError):
            raise BoundError("refused")

    def test_each_derives_straight_from_what_the_interface_says(self):
        self.assertEqual(BoundError.__bases__, (ValueError,))
        self.assertEqual(BadShelves.__bases__, (BoundError,))
        self.assertEqual(BadRow.__bases__, (BoundError,))

    def test_neither_is_the_other(self):
        self.assertNotIsInstance(BadShelves("no name"), BadRow)
        self.assertNotIsInstance(BadRow(0), BadShelves)

    def test_at_is_there_from_creation(self):
        for at in (0, 1, 59, 60):
            self.assertEqual(BadRow(at).at, at)

    def test_each_bad_row_has_an_at_of_its_own(self):
        first, second = BadRow(1), BadRow(2)
        self.assertEqual((first.at, second.at), (1, 2))

    def test_at_can_be_read_where_it_is_caught(self):
        with self.assertRaises(BoundError) as told:
            raise BadRow(at=7)
        self.assertEqual(told.exception.at, 7)

    def test_bad_shelves_has_no_at(self):
        self.assertFalse(hasattr(BadShelves("a length of 0"), "at"))
