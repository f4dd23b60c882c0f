"""Tests of lanebookings.lanes.right: promise 2, and promise 1 as far as it speaks of right."""

import itertools
import unittest

from lanebookings.lanes import right
from tests.helpers import TOP, EachCallByItself, is_right_by_cells


class OrdinaryWays(unittest.TestCase):
    def test_one_booking_within_the_lanes(self):
        self.assertEqual(right(5, [3, 6, 2], [0]), [1])
        self.assertEqual(right(5, [3, 6, 2], [3]), [1])

    def test_two_beside_one_another_in_the_same_hours(self):
        self.assertEqual(right(5, [9, 11, 2, 10, 12, 3], [0, 2]), [1])
        self.assertEqual(right(5, [9, 11, 2, 10, 12, 3], [3, 0]), [1])

    def test_two_on_the_same_lanes_in_other_hours(self):
        self.assertEqual(right(3, [0, 2, 3, 5, 8, 3], [0, 0]), [1])

    def test_two_with_an_hour_and_a_lane_in_common(self):
        self.assertEqual(right(5, [9, 11, 2, 10, 12, 3], [0, 1]), [0])
        self.assertEqual(right(9, [1, 4, 3, 3, 6, 3], [4, 2]), [0])

    def test_one_hour_within_the_other_booking(self):
        self.assertEqual(right(4, [0, 12, 1, 5, 6, 1], [2, 2]), [0])
        self.assertEqual(right(4, [5, 6, 1, 0, 12, 1], [2, 2]), [0])
        self.assertEqual(right(4, [5, 6, 1, 0, 12, 1], [2, 3]), [1])

    def test_lanes_within_those_of_the_other_booking(self):
        self.assertEqual(right(8, [2, 4, 6, 2, 4, 1], [1, 3]), [0])
        self.assertEqual(right(8, [2, 4, 1, 2, 4, 6], [3, 1]), [0])

    def test_the_same_booking_twice(self):
        self.assertEqual(right(8, [2, 4, 2, 2, 4, 2], [1, 1]), [0])
        self.assertEqual(right(8, [2, 4, 2, 2, 4, 2], [1, 3]), [1])

    def test_a_booking_beyond_the_lanes(self):
        self.assertEqual(right(4, [0, 1, 2], [2]), [1])
        self.assertEqual(right(4, [0, 1, 2], [3]), [0])
        self.assertEqual(right(4, [0, 1, 2], [4]), [0])

    def test_the_first_or_the_last_booking_beyond_the_lanes(self):
        self.assertEqual(right(4, [0, 1, 2, 1, 2, 1], [3, 0]), [0])
        self.assertEqual(right(4, [0, 1, 2, 1, 2, 1], [0, 4]), [0])

    def test_any_two_of_six(self):
        bookings = [4, 6, 2] * 6
        self.assertEqual(right(12, bookings, [0, 2, 4, 6, 8, 10]), [1])
        self.assertEqual(right(12, bookings, [10, 8, 6, 4, 2, 0]), [1])
        for one, other in itertools.permutations(range(6), 2):
            firsts = [0, 2, 4, 6, 8, 10]
            firsts[one] = firsts[other]
            with self.subTest(one=one, other=other):
                self.assertEqual(right(12, bookings, firsts), [0])


class Edges(unittest.TestCase):
    def test_two_that_meet_at_an_hours_end(self):
        self.assertEqual(right(2, [3, 5, 2, 5, 7, 2], [0, 0]), [1])
        self.assertEqual(right(2, [5, 7, 2, 3, 5, 2], [0, 0]), [1])
        self.assertEqual(right(2, [3, 6, 2, 5, 7, 2], [0, 0]), [0])

    def test_two_that_meet_at_a_lane(self):
        self.assertEqual(right(5, [3, 5, 2, 3, 5, 3], [0, 2]), [1])
        self.assertEqual(right(5, [3, 5, 3, 3, 5, 2], [0, 2]), [0])

    def test_a_booking_that_must_leave_a_gap(self):
        bookings = [0, 2, 1, 0, 1, 1, 1, 3, 2]
        self.assertEqual(right(4, bookings, [0, 1, 2]), [1])
        self.assertEqual(right(4, bookings, [1, 0, 2]), [1])
        self.assertEqual(right(4, bookings, [1, 2, 1]), [0])
        self.assertEqual(right(4, [0, 1, 1, 0, 1, 1], [0, 3]), [1])

    def test_no_bookings(self):
        for lanes in (0, 1, 24):
            with self.subTest(lanes=lanes):
                self.assertEqual(right(lanes, [], []), [1])

    def test_one_as_wide_as_all_lanes(self):
        self.assertEqual(right(8, [0, 12, 8], [0]), [1])
        self.assertEqual(right(8, [0, 12, 8], [1]), [0])
        self.assertEqual(right(7, [0, 12, 8], [0]), [0])
        self.assertEqual(right(1, [0, 12, 1], [0]), [1])
        self.assertEqual(right(8, [0, 3, 8, 2, 4, 1], [0, 7]), [0])
        self.assertEqual(right(8, [0, 3, 8, 3, 4, 1], [0, 7]), [1])

    def test_hour_eleven(self):
        self.assertEqual(right(1, [11, 12, 1], [0]), [1])
        self.assertEqual(right(1, [10, 11, 1, 11, 12, 1], [0, 0]), [1])
        self.assertEqual(right(1, [10, 12, 1, 11, 12, 1], [0, 0]), [0])
        self.assertEqual(right(1, [11, 12, 1, 11, 12, 1], [0, 0]), [0])

    def test_hour_zero(self):
        self.assertEqual(right(1, [0, 1, 1, 1, 2, 1], [0, 0]), [1])
        self.assertEqual(right(1, [0, 1, 1, 0, 2, 1], [0, 0]), [0])

    def test_no_lanes(self):
        self.assertEqual(right(0, [0, 1, 1], [0]), [0])

    def test_as_many_lanes_as_may_be(self):
        self.assertEqual(right(24, [0, 1, 8], [16]), [1])
        self.assertEqual(right(24, [0, 1, 8], [17]), [0])
        self.assertEqual(right(24, [0, 1, 1], [23]), [1])
        self.assertEqual(right(24, [0, 1, 1], [24]), [0])

    def test_the_highest_first_lane(self):
        self.assertEqual(right(24, [0, 1, 1], [100]), [0])
        self.assertEqual(right(24, [0, 1, 1, 0, 1, 1], [0, 100]), [0])


class WrongInputs(unittest.TestCase):
    def assert_refused(self, lanes, bookings, firsts):
        with self.subTest(lanes=lanes, bookings=bookings, firsts=firsts):
            self.assertEqual(right(lanes, bookings, firsts), [-22])

    def test_not_three_numbers_for_each_booking(self):
        for bookings in ([0], [0, 1], [0, 1, 1, 1], [0, 1, 1, 1, 2]):
            for firsts in ([], [0], [0, 1]):
                self.assert_refused(8, bookings, firsts)

    def test_more_than_six_bookings(self):
        self.assertEqual(right(24, [0, 1, 1] * 6, list(range(6))), [1])
        self.assert_refused(24, [0, 1, 1] * 7, list(range(7)))
        self.assert_refused(24, [0, 1, 1] * 8, list(range(8)))
        self.assert_refused(24, [0, 1, 1] * 7, list(range(6)))

    def test_an_hour_that_is_not_less_than_the_one_up_to_which(self):
        self.assert_refused(8, [5, 5, 1], [0])
        self.assert_refused(8, [6, 5, 1], [0])
        self.assert_refused(8, [0, 0, 1], [0])
        self.assert_refused(8, [12, 12, 1], [0])
        self.assert_refused(8, [TOP, 5, 1], [0])

    def test_an_hour_above_twelve(self):
        self.assert_refused(8, [0, 13, 1], [0])
        self.assert_refused(8, [12, 13, 1], [0])
        self.assert_refused(8, [13, 14, 1], [0])
        self.assert_refused(8, [0, TOP, 1], [0])

    def test_a_width_that_may_not_be(self):
        self.assert_refused(24, [0, 1, 0], [0])
        self.assert_refused(24, [0, 1, 9], [0])
        self.assert_refused(24, [0, 1, TOP], [0])
        self.assertEqual(right(24, [0, 1, 1], [0]), [1])
        self.assertEqual(right(24, [0, 1, 8], [0]), [1])

    def test_one_wrong_booking_among_others(self):
        for wrong in ([5, 5, 1], [0, 13, 1], [0, 1, 0], [0, 1, 9]):
            for place in range(6):
                bookings = [0, 1, 1] * 6
                bookings[3 * place:3 * place + 3] = wrong
                self.assert_refused(24, bookings, [0, 1, 2, 3, 4, 5])

    def test_lanes_above_twenty_four(self):
        self.assert_refused(25, [0, 1, 1], [0])
        self.assert_refused(25, [], [])
        self.assert_refused(TOP, [0, 1, 1], [0])

    def test_fewer_or_more_first_lanes_than_bookings(self):
        self.assert_refused(8, [0, 1, 1], [])
        self.assert_refused(8, [0, 1, 1], [0, 1])
        self.assert_refused(8, [], [0])
        self.assert_refused(8, [0, 1, 1, 0, 1, 1], [0])
        self.assert_refused(8, [0, 1, 1, 0, 1, 1], [0, 1, 2])
        self.assert_refused(8, [0, 1, 1], [0] * 24)

    def test_a_first_lane_above_a_hundred(self):
        self.assert_refused(24, [0, 1, 1], [101])
        self.assert_refused(24, [0, 1, 1, 0, 1, 1], [101, 0])
        self.assert_refused(24, [0, 1, 1, 0, 1, 1], [0, 101])
        self.assert_refused(24, [0, 1, 1], [TOP])

    def test_refused_even_where_the_way_is_not_right(self):
        self.assert_refused(2, [0, 1, 2, 0, 1, 2, 0, 1, 0], [0, 0, 0])
        self.assert_refused(0, [0, 1, 2, 0, 1, 2], [0, 101])
        self.assert_refused(0, [0, 1, 2, 0, 1, 2], [5])


class RightByItself(EachCallByItself, unittest.TestCase):
    call = staticmethod(right)
    CALLS = (
        ((5, (9, 11, 2, 10, 12, 3), (0, 2)), [1]),
        ((5, (9, 11, 2, 10, 12, 3), (0, 1)), [0]),
        ((4, (9, 11, 2, 10, 12, 3), (0, 2)), [0]),
        ((25, (9, 11, 2, 10, 12, 3), (0, 2)), [-22]),
        ((5, (9, 11, 2, 10, 13, 3), (0, 2)), [-22]),
        ((5, (9, 11, 2, 10, 12, 3), (0, 101)), [-22]),
        ((0, (), ()), [1]),
    )

    def test_a_second_call_with_a_list_changed_in_between(self):
        bookings, firsts = [9, 11, 2, 10, 12, 3], [0, 2]
        self.assertEqual(right(5, bookings, firsts), [1])
        firsts[1] = 1
        self.assertEqual(right(5, bookings, firsts), [0])


class AgainstMarkedCells(unittest.TestCase):
    def test_every_way_of_two_small_bookings(self):
        hours = [(begin, end) for begin in range(4) for end in range(begin + 1, 5)]
        shapes = [(begin, end, wide) for begin, end in hours for wide in (1, 2, 3)]
        for one, other in itertools.product(shapes, repeat=2):
            bookings = [*one, *other]
            for firsts in itertools.product(range(5), repeat=2):
                answer = right(4, bookings, list(firsts))
                if answer != [int(is_right_by_cells(4, bookings, firsts))]:
                    self.fail(f"right(4, {bookings}, {list(firsts)}) answered {answer}")

    def test_every_way_of_four_bookings(self):
        bookings = [0, 2, 2, 1, 3, 1, 2, 5, 2, 0, 5, 1]
        for lanes in range(6):
            for firsts in itertools.product(range(5), repeat=4):
                answer = right(lanes, bookings, list(firsts))
                if answer != [int(is_right_by_cells(lanes, bookings, firsts))]:
                    self.fail(f"right({lanes}, {bookings}, {list(firsts)}) answered {answer}")


if __name__ == "__main__":
    unittest.main()
