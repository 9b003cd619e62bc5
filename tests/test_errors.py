"""The classes of the refusals: where they stand, what they are made with and bear."""

import unittest

from helper import HelperMixin
from spotlook.errors import Absent, Crossing, NoFraction, NoRow, NoText, NoWall, SpotError, TooMany

WITH_A_TEXT = (NoFraction, NoWall, NoRow)
REFUSALS = WITH_A_TEXT + (TooMany, Crossing, Absent, NoText)


class WhereTheyStand(unittest.TestCase):
    def test_spot_error_stands_straight_under_value_error(self):
        self.assertEqual(SpotError.__bases__, (ValueError,))

    def test_each_refusal_stands_straight_under_spot_error(self):
        for refusal in REFUSALS:
            self.assertEqual(refusal.__bases__, (SpotError,), refusal)

    def test_no_refusal_stands_under_another_one(self):
        for one in REFUSALS:
            for other in REFUSALS:
                self.assertEqual(issubclass(one, other), one is other, (one, other))

    def test_names(self):
        for refusal in REFUSALS + (SpotError,):
            self.assertEqual(refusal.__module__, "spotlook.errors")
        names = sorted(refusal.__name__ for refusal in REFUSALS)
        self.assertEqual(names, ["Absent", "Crossing", "NoFraction", "NoRow", "NoText", "NoWall", "TooMany"])


class WhatTheyBear(HelperMixin, unittest.TestCase):
    def test_made_with_one_text_as_value_error_is(self):
        for refusal in WITH_A_TEXT + (SpotError,):
            made = refusal("words of my own")
            self.assertEqual(str(made), "words of my own")
            self.assertEqual(made.args, ValueError("words of my own").args)

    def test_too_many_bears_count(self):
        for count in (41, 0, -3, 10 ** 30 - 1):
            self.assert_told(TooMany(count).count, count)

    def test_crossing_bears_wall_and_other(self):
        made = Crossing(7, 2)
        self.assert_told(made.wall, 7)
        self.assert_told(made.other, 2)

    def test_crossing_of_a_wall_without_a_number(self):
        made = Crossing(None, 3)
        self.assertIsNone(made.wall)
        self.assert_told(made.other, 3)

    def test_absent_bears_number(self):
        for number in (0, -1, 99, -(10 ** 30 - 1), 10 ** 3999):
            self.assert_told(Absent(number).number, number)

    def test_no_text_bears_row(self):
        for row in (0, 12):
            self.assert_told(NoText(row).row, row)

    def test_two_of_one_class_keep_their_own_fields(self):
        first, second = TooMany(41), TooMany(42)
        self.assertEqual((first.count, second.count), (41, 42))

    def test_all_are_raised_and_taken_as_spot_error_and_value_error(self):
        made = [TooMany(41), Crossing(1, 0), Absent(5), NoText(0)] + [refusal("no") for refusal in WITH_A_TEXT]
        for refusal in made:
            for above in (SpotError, ValueError):
                with self.assertRaises(above) as caught:
                    raise refusal
                self.assertIs(caught.exception, refusal)

    def test_each_has_words(self):
        for refusal in (TooMany(41), Crossing(1, 0), Crossing(None, 0), Absent(5), NoText(0)):
            self.assertIs(type(str(refusal)), str)
            self.assertNotEqual(str(refusal), "")


if __name__ == "__main__":
    unittest.main()
