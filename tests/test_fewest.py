"""Tests of lanebookings.lanes.fewest: promises 1 and 3 as far as they speak of it, and what holds b and c."""

import itertools
import unittest

from lanebookings.bookings import read_bookings
from lanebookings.lanes import fewest, put
from lanebookings.ways import find_fewest
from tests.helpers import (
    FIRST_BETWEEN_OTHERS, WRONG_BOOKINGS, EachCallByItself, first_way_by_trying, in_a_row, in_threes,
    peak_by_counting,
)

# The most, 20 lanes, is asked for in hour 6.
SIX_ACROSS_ONE_ANOTHER = [0, 4, 8, 2, 7, 5, 3, 5, 3, 6, 12, 7, 1, 12, 2, 4, 8, 6]


def small_shapes(most_wide):
    return [(*hours, wide) for hours in itertools.combinations(range(4), 2) for wide in range(1, most_wide + 1)]


def enough_by_trying(bookings):
    """The least number of lanes with a right way, all ways of fewer lanes tried before."""
    lanes = 0
    while first_way_by_trying(lanes, bookings) is None:
        lanes += 1
    return lanes


class OrdinaryBookings(unittest.TestCase):
    def test_one_booking(self):
        self.assertEqual(fewest([3, 6, 2]), [2])
        self.assertEqual(fewest([0, 12, 8]), [8])
        self.assertEqual(fewest([0, 1, 1]), [1])

    def test_two_in_the_same_hours(self):
        self.assertEqual(fewest([9, 11, 2, 10, 12, 3]), [5])
        self.assertEqual(fewest([3, 6, 4, 3, 6, 4]), [8])

    def test_two_in_other_hours(self):
        self.assertEqual(fewest([0, 2, 3, 5, 8, 2]), [3])
        self.assertEqual(fewest([5, 8, 2, 0, 2, 3]), [3])

    def test_one_within_the_hours_of_the_other(self):
        self.assertEqual(fewest([0, 12, 1, 5, 6, 1]), [2])

    def test_one_after_another_beside_one_that_stays(self):
        self.assertEqual(fewest([0, 12, 2, 0, 3, 4, 3, 7, 5, 7, 12, 1]), [7])

    def test_the_most_may_be_asked_for_in_any_hour(self):
        for hour in range(12):
            with self.subTest(hour=hour):
                self.assertEqual(fewest([0, 12, 1, hour, hour + 1, 6]), [7])

    def test_more_than_twenty_four(self):
        self.assertEqual(fewest([0, 2, 7, 0, 2, 7, 1, 3, 6, 1, 3, 5]), [25])


class Edges(unittest.TestCase):
    def test_two_that_meet_at_an_hours_end(self):
        self.assertEqual(fewest([3, 5, 2, 5, 7, 2]), [2])
        self.assertEqual(fewest([5, 7, 2, 3, 5, 2]), [2])
        self.assertEqual(fewest([3, 6, 2, 5, 7, 2]), [4])

    def test_a_booking_that_must_leave_a_gap(self):
        self.assertEqual(fewest([0, 1, 1, 0, 2, 1, 1, 2, 2]), [3])
        self.assertEqual(fewest([0, 2, 1, 0, 4, 1, 2, 4, 2]), [3])

    def test_more_lanes_than_the_peak_needed(self):
        # No six bookings were found that need more than the peak; these seven do. As no
        # call takes seven, the search is asked by itself.
        bookings = [0, 1, 3, 0, 3, 1, 1, 2, 2, 1, 4, 1, 2, 5, 1, 3, 4, 2, 4, 5, 3]
        self.assertEqual(peak_by_counting(bookings), 4)
        self.assertEqual(enough_by_trying(bookings), 5)
        self.assertEqual(find_fewest(read_bookings(bookings)), 5)

    def test_no_bookings(self):
        self.assertEqual(fewest([]), [0])

    def test_one_as_wide_as_all_lanes(self):
        self.assertEqual(fewest([0, 3, 8, 3, 4, 1]), [8])
        self.assertEqual(fewest([0, 3, 8, 2, 4, 1]), [9])
        self.assertEqual(fewest([3, 4, 1, 0, 3, 8, 3, 12, 7]), [8])

    def test_a_way_found_only_by_going_back(self):
        self.assertEqual(fewest([0, 1, 1, 0, 3, 1, 2, 3, 2]), [3])
        self.assertEqual(fewest([1, 2, 1, 0, 3, 1, 1, 3, 1, 0, 1, 2]), [3])
        self.assertEqual(fewest(FIRST_BETWEEN_OTHERS), [3])

    def test_hour_eleven(self):
        self.assertEqual(fewest([11, 12, 1]), [1])
        self.assertEqual(fewest([11, 12, 5, 11, 12, 3]), [8])
        self.assertEqual(fewest([10, 11, 5, 11, 12, 3]), [5])
        self.assertEqual(fewest([0, 12, 2, 11, 12, 8]), [10])

    def test_hour_zero(self):
        self.assertEqual(fewest([0, 1, 5, 0, 12, 3]), [8])
        self.assertEqual(fewest([0, 1, 5, 1, 12, 3]), [5])

    def test_six_bookings(self):
        self.assertEqual(fewest([0, 12, 4] * 6), [24])
        self.assertEqual(fewest(in_a_row((hour, hour + 1, 8) for hour in range(6))), [8])
        self.assertEqual(fewest(FIRST_BETWEEN_OTHERS + [3, 12, 3]), [3])
        self.assertEqual(fewest(SIX_ACROSS_ONE_ANOTHER), [20])

    def test_six_as_wide_as_may_be_with_an_hour_in_common(self):
        self.assertEqual(fewest([11, 12, 8] * 6), [48])
        self.assertEqual(fewest([0, 12, 8] * 6), [48])
        self.assertEqual(fewest(in_a_row((hour, 12 - hour, 8) for hour in range(6))), [48])
        self.assertEqual(fewest(in_a_row((hour, hour + 6, 8) for hour in range(6))), [48])


class WrongInputs(unittest.TestCase):
    def test_bookings_that_are_not_as_told(self):
        for fault, wrong in WRONG_BOOKINGS.items():
            for bookings in wrong:
                with self.subTest(fault=fault, bookings=bookings):
                    self.assertEqual(fewest(bookings), [-22])

    def test_the_utmost_that_may_be(self):
        self.assertEqual(fewest([0, 12, 8]), [8])
        self.assertEqual(fewest([11, 12, 1]), [1])
        self.assertEqual(fewest([0, 1, 1] * 6), [6])


class FewestByItself(EachCallByItself, unittest.TestCase):
    call = staticmethod(fewest)
    CALLS = (
        (((9, 11, 2, 10, 12, 3),), [5]),
        ((tuple(FIRST_BETWEEN_OTHERS),), [3]),
        (((0, 12, 8) * 6,), [48]),
        (((9, 11, 2, 10, 13, 3),), [-22]),
        (((9, 11),), [-22]),
        (((),), [0]),
    )

    def test_a_second_call_with_a_list_changed_in_between(self):
        bookings = [9, 11, 2, 10, 12, 3]
        self.assertEqual(fewest(bookings), [5])
        bookings[1] = 10
        self.assertEqual(fewest(bookings), [3])


class AgainstAllWays(unittest.TestCase):
    """So many lanes are enough, one fewer aren't."""

    def assert_least(self, bookings):
        should = [enough_by_trying(bookings)]
        answer = fewest(bookings)
        if answer != should:
            self.fail(f"fewest({bookings}) answered {answer}, not {should}")

    def test_every_two_small_bookings(self):
        for two in itertools.product(small_shapes(4), repeat=2):
            self.assert_least(in_a_row(two))

    def test_every_three_small_bookings(self):
        for three in itertools.product(small_shapes(2), repeat=3):
            self.assert_least(in_a_row(three))

    def test_some_of_four_small_bookings(self):
        for four in itertools.combinations(small_shapes(2), 4):
            self.assert_least(in_a_row(four))

    def test_every_order_of_five_bookings_of_which_one_stands_between(self):
        for order in itertools.permutations(in_threes(FIRST_BETWEEN_OTHERS)):
            self.assert_least(in_a_row(order))

    def test_six_bookings(self):
        self.assert_least([10, 11, 1, 9, 10, 2, 10, 12, 1, 9, 11, 1, 11, 12, 2, 0, 9, 3])
        self.assert_least([0, 2, 1, 1, 3, 1, 2, 4, 1, 3, 5, 1, 0, 5, 1, 4, 5, 1])

    def test_put_has_a_way_for_so_many_and_none_for_one_fewer(self):
        six = in_threes(SIX_ACROSS_ONE_ANOTHER)
        for left_out in range(6):
            for order in itertools.permutations(six[:left_out] + six[left_out + 1:]):
                bookings = in_a_row(order)
                lanes = fewest(bookings)[0]
                self.assertNotEqual(put(lanes, bookings), [-33])
                self.assertEqual(put(lanes - 1, bookings), [-33])


class WhatHolds(unittest.TestCase):
    def test_never_fewer_than_the_peak(self):
        for three in itertools.combinations_with_replacement(small_shapes(4), 3):
            bookings = in_a_row(three)
            self.assertGreaterEqual(fewest(bookings)[0], peak_by_counting(bookings))

    def test_the_peak_if_all_are_as_wide(self):
        hours = list(itertools.combinations((0, 3, 6, 9, 12), 2))
        for wide in (1, 3, 8):
            for four in itertools.combinations_with_replacement(hours, 4):
                bookings = in_a_row((*two, wide) for two in four)
                self.assertEqual(fewest(bookings), [peak_by_counting(bookings)])
            for six in itertools.combinations(hours, 6):
                bookings = in_a_row((*two, wide) for two in six)
                self.assertEqual(fewest(bookings), [peak_by_counting(bookings)])

    def test_as_many_in_whatever_order(self):
        for bookings in (SIX_ACROSS_ONE_ANOTHER, FIRST_BETWEEN_OTHERS, FIRST_BETWEEN_OTHERS + [0, 3, 2]):
            answer = fewest(bookings)
            for order in itertools.permutations(in_threes(bookings)):
                self.assertEqual(fewest(in_a_row(order)), answer)

    def test_a_booking_less_never_needs_more(self):
        for all_told in (SIX_ACROSS_ONE_ANOTHER, FIRST_BETWEEN_OTHERS + [0, 3, 2], [0, 12, 8] * 6):
            bookings = in_threes(all_told)
            for number in range(1, len(bookings) + 1):
                for some in itertools.combinations(bookings, number):
                    for left_out in range(number):
                        fewer = some[:left_out] + some[left_out + 1:]
                        self.assertLessEqual(fewest(in_a_row(fewer))[0], fewest(in_a_row(some))[0])


if __name__ == "__main__":
    unittest.main()
