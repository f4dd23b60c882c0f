"""Tests of lanebookings.lanes.peak: promises 1 and 3 as far as they speak of it, and what holds b."""

import itertools
import unittest

from lanebookings.lanes import fewest, peak
from tests.helpers import (
    FIRST_BETWEEN_OTHERS, WRONG_BOOKINGS, EachCallByItself, asked_for_by_counting, in_a_row, in_threes,
)

ALL_HOURS = list(range(12))


class OrdinaryBookings(unittest.TestCase):
    def test_one_booking(self):
        self.assertEqual(peak([3, 6, 2]), [2, 3, 3, 4, 5])
        self.assertEqual(peak([7, 8, 5]), [5, 1, 7])

    def test_two_that_share_some_hours(self):
        self.assertEqual(peak([9, 11, 2, 10, 12, 3]), [5, 1, 10])
        self.assertEqual(peak([1, 6, 4, 3, 9, 1]), [5, 3, 3, 4, 5])

    def test_two_that_share_no_hour(self):
        self.assertEqual(peak([0, 2, 3, 5, 8, 2]), [3, 2, 0, 1])
        self.assertEqual(peak([0, 2, 2, 5, 8, 3]), [3, 3, 5, 6, 7])

    def test_one_within_the_hours_of_the_other(self):
        self.assertEqual(peak([2, 9, 1, 5, 7, 6]), [7, 2, 5, 6])

    def test_three_of_which_two_at_a_time_share_hours(self):
        self.assertEqual(peak([0, 4, 2, 3, 7, 3, 6, 9, 4]), [7, 1, 6])

    def test_a_wide_one_alone_asks_for_more_than_two_narrow_ones(self):
        self.assertEqual(peak([2, 5, 1, 3, 6, 2, 8, 10, 7]), [7, 2, 8, 9])

    def test_the_same_booking_more_than_once(self):
        self.assertEqual(peak([2, 4, 2] * 3), [6, 2, 2, 3])

    def test_the_peak_of_many_is_the_sum_of_their_widths(self):
        self.assertEqual(peak([4, 6, 1, 3, 6, 2, 2, 6, 3, 5, 9, 4, 5, 8, 5, 5, 7, 6]), [21, 1, 5])


class Edges(unittest.TestCase):
    def test_two_that_meet_at_an_hours_end(self):
        self.assertEqual(peak([3, 5, 2, 5, 7, 2]), [2, 4, 3, 4, 5, 6])
        self.assertEqual(peak([5, 7, 2, 3, 5, 2]), [2, 4, 3, 4, 5, 6])
        self.assertEqual(peak([3, 5, 2, 5, 7, 3]), [3, 2, 5, 6])
        self.assertEqual(peak([3, 6, 2, 5, 7, 2]), [4, 1, 5])

    def test_no_bookings(self):
        self.assertEqual(peak([]), [0, 0])

    def test_hour_eleven(self):
        self.assertEqual(peak([11, 12, 1]), [1, 1, 11])
        self.assertEqual(peak([0, 12, 1, 11, 12, 8]), [9, 1, 11])
        self.assertEqual(peak([10, 11, 3, 11, 12, 3]), [3, 2, 10, 11])

    def test_hour_zero(self):
        self.assertEqual(peak([0, 1, 1]), [1, 1, 0])
        self.assertEqual(peak([0, 12, 1, 0, 1, 8]), [9, 1, 0])

    def test_one_that_has_all_hours(self):
        self.assertEqual(peak([0, 12, 8]), [8, 12, *ALL_HOURS])
        self.assertEqual(peak([0, 12, 1]), [1, 12, *ALL_HOURS])

    def test_all_hours_by_many(self):
        self.assertEqual(peak([0, 3, 4, 3, 7, 4, 7, 12, 4]), [4, 12, *ALL_HOURS])

    def test_hours_that_do_not_stand_beside_one_another(self):
        self.assertEqual(peak([0, 2, 3, 5, 8, 3]), [3, 5, 0, 1, 5, 6, 7])
        self.assertEqual(peak([11, 12, 2, 0, 1, 2, 5, 6, 2]), [2, 3, 0, 5, 11])
        self.assertEqual(peak([1, 4, 2, 6, 9, 2, 3, 7, 1]), [3, 2, 3, 6])

    def test_hours_rise_in_whatever_order_bookings_are_told(self):
        for order in itertools.permutations([(8, 9, 5), (0, 1, 5), (3, 6, 2), (5, 7, 3)]):
            self.assertEqual(peak(in_a_row(order)), [5, 3, 0, 5, 8])

    def test_six_as_wide_as_may_be_with_an_hour_in_common(self):
        self.assertEqual(peak([11, 12, 8] * 6), [48, 1, 11])
        self.assertEqual(peak([0, 12, 8] * 6), [48, 12, *ALL_HOURS])
        self.assertEqual(peak(in_a_row((hour, 12 - hour, 8) for hour in range(6))), [48, 2, 5, 6])
        self.assertEqual(peak(in_a_row((hour, hour + 6, 8) for hour in range(6))), [48, 1, 5])

    def test_six_that_share_no_hour(self):
        self.assertEqual(peak(in_a_row((2 * hour, 2 * hour + 1, 8) for hour in range(6))), [8, 6, 0, 2, 4, 6, 8, 10])


class WrongInputs(unittest.TestCase):
    def test_bookings_that_are_not_as_told(self):
        for fault, wrong in WRONG_BOOKINGS.items():
            for bookings in wrong:
                with self.subTest(fault=fault, bookings=bookings):
                    self.assertEqual(peak(bookings), [-22])

    def test_the_utmost_that_may_be(self):
        self.assertEqual(peak([0, 12, 8]), [8, 12, *ALL_HOURS])
        self.assertEqual(peak([11, 12, 1]), [1, 1, 11])
        self.assertEqual(peak([0, 1, 1] * 6), [6, 1, 0])


class PeakByItself(EachCallByItself, unittest.TestCase):
    call = staticmethod(peak)
    CALLS = (
        (((9, 11, 2, 10, 12, 3),), [5, 1, 10]),
        ((tuple(FIRST_BETWEEN_OTHERS),), [3, 3, 0, 1, 2]),
        (((0, 12, 8) * 6,), [48, 12, *ALL_HOURS]),
        (((9, 11, 2, 10, 13, 3),), [-22]),
        (((9, 11),), [-22]),
        (((),), [0, 0]),
    )

    def test_a_second_call_with_a_list_changed_in_between(self):
        bookings = [9, 11, 2, 10, 12, 3]
        self.assertEqual(peak(bookings), [5, 1, 10])
        bookings[1] = 10
        self.assertEqual(peak(bookings), [3, 2, 10, 11])


class AgainstAPlainCount(unittest.TestCase):
    def assert_counted(self, bookings):
        asked_for = asked_for_by_counting(bookings)
        most = max(asked_for)
        hours = [hour for hour in ALL_HOURS if asked_for[hour] == most and most > 0]
        answer = peak(bookings)
        if answer != [most, len(hours), *hours]:
            self.fail(f"peak({bookings}) answered {answer}, not {[most, len(hours), *hours]}")

    def test_every_booking(self):
        for hours in itertools.combinations(range(13), 2):
            for wide in range(1, 9):
                self.assert_counted([*hours, wide])

    def test_every_two_of_all_hours(self):
        shapes = [(*hours, wide) for hours in itertools.combinations(range(13), 2) for wide in (1, 2)]
        for two in itertools.product(shapes, repeat=2):
            self.assert_counted(in_a_row(two))

    def test_every_three_small_bookings(self):
        shapes = [(*hours, wide) for hours in itertools.combinations(range(8, 13), 2) for wide in (1, 2)]
        for three in itertools.product(shapes, repeat=3):
            self.assert_counted(in_a_row(three))

    def test_some_of_six_bookings(self):
        shapes = [(0, 4, 8), (2, 7, 5), (3, 5, 3), (6, 12, 7), (1, 12, 2), (4, 8, 6), (11, 12, 8), (0, 1, 7)]
        for number in range(7):
            for some in itertools.combinations(shapes, number):
                self.assert_counted(in_a_row(some))


class WhatHolds(unittest.TestCase):
    def test_fewest_is_never_below_the_peak(self):
        shapes = [(*hours, wide) for hours in itertools.combinations(range(4), 2) for wide in range(1, 5)]
        for number in range(4):
            for some in itertools.combinations_with_replacement(shapes, number):
                bookings = in_a_row(some)
                self.assertGreaterEqual(fewest(bookings)[0], peak(bookings)[0])

    def test_fewest_is_the_peak_if_all_are_as_wide(self):
        hours = list(itertools.combinations((0, 3, 6, 9, 12), 2))
        for wide in (1, 3, 8):
            for number in (0, 1, 2, 4):
                for some in itertools.combinations_with_replacement(hours, number):
                    bookings = in_a_row((*two, wide) for two in some)
                    self.assertEqual(fewest(bookings), peak(bookings)[:1])
            for six in itertools.combinations(hours, 6):
                bookings = in_a_row((*two, wide) for two in six)
                self.assertEqual(fewest(bookings), peak(bookings)[:1])

    def test_the_same_in_whatever_order(self):
        answer = peak(FIRST_BETWEEN_OTHERS + [3, 12, 2])
        for order in itertools.permutations(in_threes(FIRST_BETWEEN_OTHERS + [3, 12, 2])):
            self.assertEqual(peak(in_a_row(order)), answer)


if __name__ == "__main__":
    unittest.main()
