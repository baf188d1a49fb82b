"""The errors of the interface."""

import unittest

from signalhouse import errors
from signalhouse.errors import BadBook, BadLayout, Barred, HouseError, NoSuch, TooMany


class Errors(unittest.TestCase):
    def test_each_error_is_a_house_error_and_a_value_error(self):
        made = [HouseError("x"), BadLayout(0), NoSuch("x"), Barred([]), TooMany("x"), BadBook(0)]
        for error in made:
            self.assertIsInstance(error, HouseError)
            self.assertIsInstance(error, ValueError)

    def test_each_kind_stands_right_below_house_error(self):
        self.assertEqual(HouseError.__bases__, (ValueError,))
        for kind in (BadLayout, NoSuch, Barred, TooMany, BadBook):
            self.assertEqual(kind.__bases__, (HouseError,))

    def test_the_errors_are_defined_in_their_file(self):
        for kind in (HouseError, BadLayout, NoSuch, Barred, TooMany, BadBook):
            self.assertEqual(kind.__module__, errors.__name__)

    def test_bad_layout_and_bad_book_tell_their_row(self):
        for kind in (BadLayout, BadBook):
            for row in (0, 7):
                self.assertEqual(kind(row).row, row)

    def test_barred_tells_all_its_bars_in_their_order(self):
        bars = [("train", "b", "t"), ("route", "a", 3)]
        told = Barred(bars).bars
        self.assertIsInstance(told, list)
        self.assertEqual(told, [("train", "b", "t"), ("route", "a", 3)])

    def test_bars_are_apart_from_what_was_handed_in(self):
        bars = [("train", "b", "t")]
        error = Barred(bars)
        error.bars.append(("route", "a", 3))
        self.assertEqual(bars, [("train", "b", "t")])
        bars.clear()
        self.assertEqual(error.bars, [("train", "b", "t"), ("route", "a", 3)])


if __name__ == "__main__":
    unittest.main()
