"""Tests of lanebookings.lanes.put: promises 1 and 2 as far as they speak of it, and what holds a."""

import itertools
import unittest

from lanebookings.bookings import read_bookings
from lanebookings.lanes import put, right
from lanebookings.ways import find_first_way
from tests.helpers import (
    FIRST_BETWEEN_OTHERS, TOP, WRONG_BOOKINGS, EachCallByItself, first_way_by_trying, in_a_row, in_threes,
    is_right_by_cells, peak_by_counting,
)


class OrdinaryBookings(unittest.TestCase):
    def test_one_booking(self):
        self.assertEqual(put(5, [3, 6, 2]), [1, 0])

    def test_two_in_the_same_hours(self):
        self.assertEqual(put(5, [9, 11, 2, 10, 12, 3]), [2, 0, 2])
        self.assertEqual(put(5, [10, 12, 3, 9, 11, 2]), [2, 0, 3])
        self.assertEqual(put(24, [9, 11, 2, 10, 12, 3]), [2, 0, 2])

    def test_two_in_other_hours(self):
        self.assertEqual(put(3, [0, 2, 3, 5, 8, 2]), [2, 0, 0])

    def test_three_of_which_two_share_no_hour(self):
        self.assertEqual(put(4, [0, 2, 2, 1, 4, 2, 3, 6, 2]), [3, 0, 2, 0])

    def test_the_same_booking_more_than_once(self):
        self.assertEqual(put(6, [2, 4, 2] * 3), [3, 0, 2, 4])
        self.assertEqual(put(5, [2, 4, 2] * 3), [-33])

    def test_bookings_that_have_no_way(self):
        self.assertEqual(put(4, [9, 11, 2, 10, 12, 3]), [-33])
        self.assertEqual(put(1, [3, 6, 2]), [-33])
        self.assertEqual(put(3, [0, 2, 1, 1, 3, 2, 1, 2, 1]), [-33])
        self.assertEqual(put(23, [0, 12, 8, 0, 12, 8, 0, 12, 8]), [-33])

    def test_the_first_or_the_last_booking_alone_has_no_place(self):
        self.assertEqual(put(4, [0, 1, 5, 1, 2, 1]), [-33])
        self.assertEqual(put(4, [0, 1, 1, 1, 2, 5]), [-33])

    def test_a_later_booking_that_goes_below_an_earlier_one(self):
        self.assertEqual(put(4, [0, 2, 2, 1, 3, 1, 2, 4, 2]), [3, 0, 2, 0])
        self.assertEqual(put(5, [0, 1, 2, 0, 3, 1, 2, 4, 2]), [3, 0, 2, 0])

    def test_the_earliest_booking_told_has_the_least_first_lane(self):
        # [1, 0] would be right, too, and stands on lesser lanes at the second.
        self.assertEqual(put(3, [0, 1, 2, 0, 1, 1]), [2, 0, 2])
        self.assertEqual(put(3, [0, 1, 1, 0, 1, 2]), [2, 0, 1])


class Edges(unittest.TestCase):
    def test_two_that_meet_at_an_hours_end(self):
        self.assertEqual(put(2, [3, 5, 2, 5, 7, 2]), [2, 0, 0])
        self.assertEqual(put(2, [5, 7, 2, 3, 5, 2]), [2, 0, 0])
        self.assertEqual(put(2, [3, 6, 2, 5, 7, 2]), [-33])
        self.assertEqual(put(4, [3, 6, 2, 5, 7, 2]), [2, 0, 2])

    def test_a_booking_that_must_leave_a_gap(self):
        # The second leaves lane 1 free in hour 0, as the third needs it in hour 1.
        self.assertEqual(put(3, [0, 1, 1, 0, 2, 1, 1, 2, 2]), [3, 0, 2, 0])
        # The third can't stand on lanes 0 and 1, though lane 0 is free in its hours.
        self.assertEqual(put(4, [0, 2, 1, 0, 4, 1, 2, 4, 2]), [3, 0, 1, 2])
        self.assertEqual(put(3, [0, 2, 1, 0, 4, 1, 2, 4, 2]), [3, 0, 2, 0])

    def test_more_lanes_than_the_bookings_need(self):
        bookings = [0, 1, 1, 0, 2, 1, 1, 2, 2]
        self.assertEqual(peak_by_counting(bookings), 3)
        self.assertEqual(put(2, bookings), [-33])
        self.assertEqual(put(3, bookings), [3, 0, 2, 0])
        for lanes in range(4, 25):
            with self.subTest(lanes=lanes):
                self.assertEqual(put(lanes, bookings), [3, 0, 1, 2])

    def test_more_lanes_than_the_peak_needed(self):
        # No six bookings were found that need more than the peak; these seven do. As no
        # call takes seven, the search is asked by itself.
        bookings = [0, 1, 3, 0, 3, 1, 1, 2, 2, 1, 4, 1, 2, 5, 1, 3, 4, 2, 4, 5, 3]
        self.assertEqual(peak_by_counting(bookings), 4)
        self.assertIsNone(first_way_by_trying(4, bookings))
        self.assertIsNone(find_first_way(4, read_bookings(bookings)))
        self.assertEqual(find_first_way(5, read_bookings(bookings)), first_way_by_trying(5, bookings))

    def test_no_bookings(self):
        for lanes in (0, 1, 24):
            with self.subTest(lanes=lanes):
                self.assertEqual(put(lanes, []), [0])

    def test_one_as_wide_as_all_lanes(self):
        self.assertEqual(put(8, [0, 12, 8]), [1, 0])
        self.assertEqual(put(7, [0, 12, 8]), [-33])
        self.assertEqual(put(1, [0, 12, 1]), [1, 0])
        self.assertEqual(put(8, [0, 3, 8, 2, 4, 1]), [-33])
        self.assertEqual(put(8, [0, 3, 8, 3, 4, 1]), [2, 0, 0])
        self.assertEqual(put(8, [3, 4, 1, 0, 3, 8, 3, 12, 7]), [3, 0, 0, 1])

    def test_a_way_found_only_by_going_back_to_an_earlier_booking(self):
        # With the second on lane 1, the least that's free, the third has no place.
        self.assertEqual(put(3, [0, 1, 1, 0, 3, 1, 2, 3, 2]), [3, 0, 2, 0])
        self.assertEqual(put(3, [0, 1, 1, 0, 3, 1, 2, 3, 2, 0, 1, 1]), [4, 0, 2, 0, 1])
        # With the second on lane 1, the third has one, but not the fourth.
        self.assertEqual(put(3, [1, 2, 1, 0, 3, 1, 1, 3, 1, 0, 1, 2]), [4, 0, 2, 1, 0])

    def test_a_way_found_only_by_going_back_to_the_first_booking(self):
        self.assertEqual(put(3, FIRST_BETWEEN_OTHERS), [5, 1, 0, 0, 2, 1])
        self.assertEqual(put(3, [1, 2, 1, 2, 3, 2, 0, 2, 1, 0, 1, 2, 1, 3, 1]), [5, 1, 0, 0, 1, 2])

    def test_hour_eleven(self):
        self.assertEqual(put(1, [11, 12, 1]), [1, 0])
        self.assertEqual(put(1, [10, 11, 1, 11, 12, 1]), [2, 0, 0])
        self.assertEqual(put(1, [11, 12, 1, 11, 12, 1]), [-33])
        self.assertEqual(put(2, [11, 12, 1, 11, 12, 1]), [2, 0, 1])
        self.assertEqual(put(1, [0, 12, 1, 11, 12, 1]), [-33])

    def test_hour_zero(self):
        self.assertEqual(put(1, [0, 1, 1, 1, 2, 1]), [2, 0, 0])
        self.assertEqual(put(1, [0, 1, 1, 0, 2, 1]), [-33])

    def test_no_lanes(self):
        self.assertEqual(put(0, [0, 1, 1]), [-33])
        self.assertEqual(put(0, [11, 12, 8] * 6), [-33])

    def test_as_many_lanes_as_may_be(self):
        self.assertEqual(put(24, [0, 1, 8, 0, 1, 8, 0, 1, 8]), [3, 0, 8, 16])
        self.assertEqual(put(24, [0, 1, 8, 0, 1, 8, 0, 1, 8, 0, 1, 1]), [-33])

    def test_six_bookings(self):
        self.assertEqual(put(24, [0, 12, 4] * 6), [6, 0, 4, 8, 12, 16, 20])
        self.assertEqual(put(23, [0, 12, 4] * 6), [-33])
        self.assertEqual(put(24, [0, 12, 8] * 6), [-33])
        self.assertEqual(put(8, in_a_row((hour, hour + 1, 8) for hour in range(6))), [6, 0, 0, 0, 0, 0, 0])
        self.assertEqual(put(3, FIRST_BETWEEN_OTHERS + [3, 12, 3]), [6, 1, 0, 0, 2, 1, 0])


class WrongInputs(unittest.TestCase):
    def assert_refused(self, lanes, bookings):
        with self.subTest(lanes=lanes, bookings=bookings):
            self.assertEqual(put(lanes, bookings), [-22])

    def test_bookings_that_are_not_as_told(self):
        for fault, wrong in WRONG_BOOKINGS.items():
            for bookings in wrong:
                with self.subTest(fault=fault):
                    self.assert_refused(24, bookings)

    def test_refused_even_where_there_is_no_way(self):
        for fault, wrong in WRONG_BOOKINGS.items():
            for bookings in wrong:
                with self.subTest(fault=fault):
                    self.assert_refused(0, bookings)
        self.assert_refused(2, [0, 1, 2, 0, 1, 2, 0, 1, 9])

    def test_lanes_above_twenty_four(self):
        for lanes in (25, 100, TOP):
            self.assert_refused(lanes, [0, 1, 1])
            self.assert_refused(lanes, [])
            self.assert_refused(lanes, [0, 12, 8] * 6)
            self.assert_refused(lanes, [0, 13, 1])

    def test_the_utmost_that_may_be(self):
        self.assertEqual(put(24, [0, 12, 8]), [1, 0])
        self.assertEqual(put(24, [11, 12, 1]), [1, 0])
        self.assertEqual(put(24, [0, 1, 1] * 6), [6, 0, 1, 2, 3, 4, 5])


class PutByItself(EachCallByItself, unittest.TestCase):
    call = staticmethod(put)
    CALLS = (
        ((5, (9, 11, 2, 10, 12, 3)), [2, 0, 2]),
        ((4, (9, 11, 2, 10, 12, 3)), [-33]),
        ((3, tuple(FIRST_BETWEEN_OTHERS)), [5, 1, 0, 0, 2, 1]),
        ((25, (9, 11, 2, 10, 12, 3)), [-22]),
        ((5, (9, 11, 2, 10, 13, 3)), [-22]),
        ((0, ()), [0]),
    )

    def test_a_second_call_with_a_list_changed_in_between(self):
        bookings = [9, 11, 2, 10, 12, 3]
        self.assertEqual(put(5, bookings), [2, 0, 2])
        bookings[1] = 10
        self.assertEqual(put(5, bookings), [2, 0, 0])


class AgainstAllWays(unittest.TestCase):
    """The way told is right, no right way comes before it, and it's told just if there is one."""

    def assert_first(self, lanes, bookings):
        firsts = first_way_by_trying(lanes, bookings)
        should = [-33] if firsts is None else [len(firsts), *firsts]
        answer = put(lanes, bookings)
        if answer != should:
            self.fail(f"put({lanes}, {bookings}) answered {answer}, not {should}")

    def test_every_two_small_bookings(self):
        shapes = [(*hours, wide) for hours in itertools.combinations(range(4), 2) for wide in (1, 2, 3)]
        for two in itertools.product(shapes, repeat=2):
            for lanes in range(7):
                self.assert_first(lanes, in_a_row(two))

    def test_every_three_small_bookings(self):
        shapes = [(*hours, wide) for hours in itertools.combinations(range(4), 2) for wide in (1, 2)]
        for three in itertools.product(shapes, repeat=3):
            for lanes in (2, 3, 4):
                self.assert_first(lanes, in_a_row(three))

    def test_every_order_of_four_bookings(self):
        for four in (
            (0, 1, 1, 0, 3, 1, 2, 3, 2, 0, 1, 1),
            (1, 2, 1, 1, 3, 1, 2, 3, 2, 0, 1, 3),
            (8, 11, 2, 9, 12, 2, 11, 12, 1, 8, 9, 1),
            (0, 12, 1, 0, 1, 3, 1, 11, 2, 11, 12, 3),
        ):
            for order in itertools.permutations(in_threes(four)):
                for lanes in range(7):
                    self.assert_first(lanes, in_a_row(order))

    def test_every_order_of_five_bookings_of_which_one_stands_between(self):
        for order in itertools.permutations(in_threes(FIRST_BETWEEN_OTHERS)):
            for lanes in (2, 3, 4):
                self.assert_first(lanes, in_a_row(order))

    def test_six_bookings(self):
        six = in_threes([10, 11, 1, 9, 10, 2, 10, 12, 1, 9, 11, 1, 11, 12, 2, 0, 9, 3])
        for turn in range(6):
            for lanes in (2, 3, 4):
                self.assert_first(lanes, in_a_row(six[turn:] + six[:turn]))

    def test_a_way_told_is_right_on_many_lanes(self):
        widths = (8, 5, 3, 7, 2, 6)
        hours = ((0, 4), (2, 7), (3, 5), (6, 12), (1, 12), (4, 8))
        for order in itertools.permutations(range(6)):
            bookings = in_a_row((*hours[at], widths[at]) for at in order)
            number, *firsts = put(24, bookings)
            self.assertEqual(number, 6)
            self.assertTrue(is_right_by_cells(24, bookings, firsts))
            self.assertEqual(right(24, bookings, firsts), [1])


if __name__ == "__main__":
    unittest.main()
