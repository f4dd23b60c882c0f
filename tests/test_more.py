"""Tests of lanebookings.lanes.more: promise 4, and promise 1 as far as it speaks of more."""

import itertools
import unittest

from lanebookings.lanes import more, put
from tests.helpers import (
    FIRST_BETWEEN_OTHERS, TOP, WRONG_BOOKINGS, EachCallByItself, asked_for_by_counting, first_way_by_trying,
    in_a_row, in_threes, is_right_by_cells,
)

ALL_HOURS = list(range(12))
FIVE = [0, 3, 2, 1, 5, 3, 2, 8, 1, 4, 9, 2, 7, 12, 4]
SIX = FIVE + [10, 12, 1]


def hours_but(*left_out):
    """The answer that all hours but those left out have room."""
    hours = [hour for hour in ALL_HOURS if hour not in left_out]
    return [len(hours), *hours]


def has_room_beside(lanes, wide, hour, bookings, firsts):
    """Whether one more has a place in the hour, all others staying where they were put."""
    longer = [*bookings, hour, hour + 1, wide]
    return any(is_right_by_cells(lanes, longer, [*firsts, first]) for first in range(lanes))


class OrdinaryBookings(unittest.TestCase):
    def test_room_in_some_hours_and_not_in_others(self):
        self.assertEqual(more(5, 2, [9, 11, 2, 10, 12, 3]), hours_but(10))
        self.assertEqual(more(5, 3, [9, 11, 2, 10, 12, 3]), hours_but(10, 11))
        self.assertEqual(more(5, 4, [9, 11, 2, 10, 12, 3]), hours_but(9, 10, 11))
        self.assertEqual(more(6, 1, [9, 11, 2, 10, 12, 3]), hours_but())

    def test_the_number_of_hours_and_the_hours_rising(self):
        self.assertEqual(more(2, 1, [8, 11, 2, 0, 3, 2]), [6, 3, 4, 5, 6, 7, 11])
        self.assertEqual(more(2, 2, [8, 12, 1, 0, 7, 1]), [1, 7])

    def test_one_booking(self):
        self.assertEqual(more(4, 3, [3, 6, 2]), hours_but(3, 4, 5))
        self.assertEqual(more(5, 3, [3, 6, 2]), hours_but())

    def test_hours_between_and_beside_bookings(self):
        self.assertEqual(more(3, 3, [2, 4, 1, 6, 9, 2]), hours_but(2, 3, 6, 7, 8))

    def test_one_more_is_for_one_hour_alone(self):
        odd = in_a_row((hour, hour + 1, 1) for hour in (1, 3, 5, 7, 9))
        self.assertEqual(more(1, 1, odd), hours_but(1, 3, 5, 7, 9))

    def test_five_bookings(self):
        self.assertEqual(asked_for_by_counting(FIVE), [2, 5, 6, 4, 6, 3, 3, 7, 6, 4, 4, 4])
        self.assertEqual(more(7, 1, FIVE), hours_but(7))
        self.assertEqual(more(7, 3, FIVE), [7, 0, 3, 5, 6, 9, 10, 11])
        self.assertEqual(more(12, 5, FIVE), hours_but())
        self.assertEqual(more(12, 6, FIVE), hours_but(7))


class AllOthersAnew(unittest.TestCase):
    def assert_only_anew(self, lanes, wide, hour, bookings):
        """The hour is told, though the first right way leaves no room in it."""
        number, *firsts = put(lanes, bookings)
        self.assertEqual(number, len(bookings) // 3)
        self.assertFalse(has_room_beside(lanes, wide, hour, bookings, firsts))
        self.assertIn(hour, more(lanes, wide, bookings)[1:])

    def test_one_of_two_is_put_anew(self):
        # The second stands on lane 1, in the middle, in the first right way.
        self.assertEqual(put(3, [0, 1, 1, 0, 2, 1]), [2, 0, 1])
        self.assert_only_anew(3, 2, 1, [0, 1, 1, 0, 2, 1])
        self.assertEqual(more(3, 2, [0, 1, 1, 0, 2, 1]), hours_but(0))

    def test_the_first_is_put_anew(self):
        four = FIRST_BETWEEN_OTHERS[:12]
        self.assert_only_anew(3, 2, 2, four)
        self.assertEqual(more(3, 2, four), hours_but(0, 1))

    def test_others_are_put_anew_for_each_hour_by_itself(self):
        # One more in hour 0 has a place and so has one in hour 4, but not both at once.
        bookings = [0, 3, 1, 1, 2, 2, 1, 4, 1, 2, 5, 1, 3, 4, 2]
        self.assertIsNotNone(first_way_by_trying(4, [*bookings, 0, 1, 3]))
        self.assertIsNotNone(first_way_by_trying(4, [*bookings, 4, 5, 3]))
        self.assertIsNone(first_way_by_trying(4, [*bookings, 0, 1, 3, 4, 5, 3]))
        self.assertEqual(more(4, 3, bookings), hours_but(1, 2, 3))

    def test_some_are_put_anew_on_all_lanes(self):
        bookings = [0, 1, 6, 0, 3, 4, 2, 3, 2]
        self.assert_only_anew(12, 8, 1, bookings)
        self.assertEqual(more(12, 8, bookings), hours_but(0, 2))


class Edges(unittest.TestCase):
    def test_two_that_meet_at_an_hours_end(self):
        self.assertEqual(more(2, 2, [3, 5, 2, 5, 7, 2]), hours_but(3, 4, 5, 6))
        self.assertEqual(more(4, 2, [3, 5, 2, 5, 7, 2]), hours_but())

    def test_one_more_that_meets_others_at_an_hours_end(self):
        self.assertEqual(more(2, 2, [3, 5, 2, 6, 8, 2]), hours_but(3, 4, 6, 7))
        self.assertEqual(more(8, 8, [0, 5, 8, 6, 12, 8]), [1, 5])
        self.assertEqual(more(8, 1, [0, 6, 8, 6, 12, 8]), [0])

    def test_a_booking_that_must_leave_a_gap(self):
        # For hour 1 the second leaves a lane free beside the first in hour 0.
        self.assertEqual(more(3, 2, [0, 1, 1, 0, 2, 1]), hours_but(0))
        self.assertEqual(more(3, 1, [0, 2, 1, 0, 4, 1, 2, 4, 2]), hours_but(2, 3))
        self.assertEqual(more(4, 2, [0, 2, 1, 0, 4, 1, 2, 4, 2]), hours_but(2, 3))

    def test_no_bookings(self):
        for lanes in range(13):
            for wide in range(1, 9):
                with self.subTest(lanes=lanes, wide=wide):
                    self.assertEqual(more(lanes, wide, []), hours_but() if wide <= lanes else [0])

    def test_one_as_wide_as_all_lanes(self):
        self.assertEqual(more(8, 1, [0, 3, 8]), hours_but(0, 1, 2))
        self.assertEqual(more(8, 8, [0, 3, 8]), hours_but(0, 1, 2))
        self.assertEqual(more(8, 8, [4, 5, 1]), hours_but(4))
        self.assertEqual(more(1, 1, [4, 5, 1]), hours_but(4))
        self.assertEqual(more(8, 1, [0, 12, 8]), [0])

    def test_a_way_found_only_by_going_back(self):
        self.assertEqual(put(3, FIRST_BETWEEN_OTHERS), [5, 1, 0, 0, 2, 1])
        self.assertEqual(more(3, 1, FIRST_BETWEEN_OTHERS), hours_but(0, 1, 2))
        self.assertEqual(more(3, 3, FIRST_BETWEEN_OTHERS), hours_but(0, 1, 2))
        self.assertEqual(more(4, 1, FIRST_BETWEEN_OTHERS), hours_but())
        # The last one has a place only if the second doesn't take the least.
        self.assertEqual(more(3, 1, [0, 1, 1, 0, 3, 1, 2, 3, 2]), hours_but(2))

    def test_hour_eleven(self):
        self.assertEqual(more(1, 1, [11, 12, 1]), hours_but(11))
        self.assertEqual(more(1, 1, [0, 11, 1]), [1, 11])
        self.assertEqual(more(2, 1, [11, 12, 1]), hours_but())
        self.assertEqual(more(3, 2, [10, 12, 1, 10, 11, 1]), hours_but(10))

    def test_hour_zero(self):
        self.assertEqual(more(1, 1, [0, 1, 1]), hours_but(0))
        self.assertEqual(more(1, 1, [1, 12, 1]), [1, 0])
        self.assertEqual(more(2, 1, [0, 1, 1]), hours_but())

    def test_no_lanes(self):
        for wide in (1, 8):
            self.assertEqual(more(0, wide, []), [0])
            self.assertEqual(more(0, wide, [3, 6, 1]), [-33])

    def test_twelve_lanes(self):
        self.assertEqual(more(12, 8, [0, 12, 4]), hours_but())
        self.assertEqual(more(12, 8, [0, 6, 4, 6, 12, 5]), hours_but(6, 7, 8, 9, 10, 11))
        self.assertEqual(more(12, 1, [2, 5, 4] * 3), hours_but(2, 3, 4))

    def test_no_hour_left(self):
        self.assertEqual(more(4, 1, [0, 12, 4]), [0])
        self.assertEqual(more(4, 2, [0, 12, 3]), [0])
        self.assertEqual(more(4, 1, [0, 5, 2, 0, 5, 2, 5, 12, 4]), [0])


class WrongInputs(unittest.TestCase):
    def assert_refused(self, refusal, lanes, wide, bookings):
        with self.subTest(lanes=lanes, wide=wide, bookings=bookings):
            self.assertEqual(more(lanes, wide, bookings), [refusal])

    def test_bookings_that_are_not_as_told(self):
        for fault, wrong in WRONG_BOOKINGS.items():
            for bookings in wrong:
                with self.subTest(fault=fault):
                    self.assert_refused(-22, 12, 1, bookings)

    def test_lanes_above_twelve(self):
        for lanes in (13, 24, 25, TOP):
            self.assert_refused(-22, lanes, 1, [0, 1, 1])
            self.assert_refused(-22, lanes, 8, [])
        for lanes in (13, 24):
            self.assertEqual(put(lanes, [0, 1, 1]), [1, 0])

    def test_a_width_of_one_more_that_may_not_be(self):
        for wide in (0, 9, 12, TOP):
            self.assert_refused(-22, 12, wide, [0, 1, 1])
            self.assert_refused(-22, 12, wide, [])

    def test_the_utmost_that_may_be(self):
        self.assertEqual(more(12, 8, [0, 12, 8]), [0])
        self.assertEqual(more(12, 1, [0, 12, 8]), hours_but())
        self.assertEqual(more(12, 8, [11, 12, 1]), hours_but())
        self.assertEqual(more(12, 7, [0, 1, 1] * 5), hours_but())
        self.assertEqual(more(12, 8, [0, 1, 1] * 5), hours_but(0))

    def test_six_bookings(self):
        self.assertEqual(put(12, SIX)[0], 6)
        self.assert_refused(-28, 12, 1, SIX)
        self.assert_refused(-28, 12, 8, [0, 1, 1] * 6)
        self.assert_refused(-28, 6, 1, [0, 12, 1] * 6)

    def test_six_bookings_that_have_no_way(self):
        self.assertEqual(put(12, [0, 12, 8] * 6), [-33])
        self.assert_refused(-28, 12, 1, [0, 12, 8] * 6)
        self.assert_refused(-28, 0, 1, [0, 1, 1] * 6)
        self.assert_refused(-28, 6, 1, SIX)

    def test_fewer_that_have_no_way(self):
        self.assert_refused(-33, 4, 1, [9, 11, 2, 10, 12, 3])
        self.assert_refused(-33, 1, 1, [3, 6, 2])
        self.assert_refused(-33, 6, 1, FIVE)
        self.assert_refused(-33, 12, 8, [0, 12, 8] * 2)
        self.assert_refused(-33, 12, 1, [11, 12, 8] * 5)
        self.assert_refused(-33, 2, 1, FIRST_BETWEEN_OTHERS)

    def test_not_as_told_comes_ahead_of_six(self):
        for six in (SIX, [0, 12, 8] * 6):
            self.assert_refused(-22, 13, 1, six)
            self.assert_refused(-22, 12, 0, six)
            self.assert_refused(-22, 12, 9, six)
            self.assert_refused(-22, 12, 1, six[:15] + [5, 5, 1])
            self.assert_refused(-22, 12, 1, six[:15] + [0, 13, 1])
            self.assert_refused(-22, 12, 1, six[:17])

    def test_not_as_told_comes_ahead_of_no_way(self):
        for fault, wrong in WRONG_BOOKINGS.items():
            for bookings in wrong:
                with self.subTest(fault=fault):
                    self.assert_refused(-22, 0, 1, bookings)
        self.assert_refused(-22, 13, 1, [0, 12, 8] * 2)
        self.assert_refused(-22, 12, 0, [0, 12, 8] * 2)
        self.assert_refused(-22, 0, 9, [0, 1, 1])
        self.assert_refused(-22, 2, 1, [0, 1, 2, 0, 1, 2, 0, 1, 9])


class MoreByItself(EachCallByItself, unittest.TestCase):
    call = staticmethod(more)
    CALLS = (
        ((5, 2, (9, 11, 2, 10, 12, 3)), hours_but(10)),
        ((3, 2, (0, 1, 1, 0, 2, 1)), hours_but(0)),
        ((3, 1, tuple(FIRST_BETWEEN_OTHERS)), hours_but(0, 1, 2)),
        ((4, 1, (0, 12, 4)), [0]),
        ((5, 2, (9, 11, 2, 10, 13, 3)), [-22]),
        ((13, 2, (9, 11, 2, 10, 12, 3)), [-22]),
        ((12, 2, tuple(SIX)), [-28]),
        ((4, 2, (9, 11, 2, 10, 12, 3)), [-33]),
        ((0, 1, ()), [0]),
    )

    def test_a_second_call_with_a_list_changed_in_between(self):
        bookings = [9, 11, 2, 10, 12, 3]
        self.assertEqual(more(5, 2, bookings), hours_but(10))
        bookings[1] = 10
        self.assertEqual(more(5, 2, bookings), hours_but())


class AgainstWaysWithOneMore(unittest.TestCase):
    """An hour is told just if the bookings and one more in that hour have a right way."""

    def assert_told(self, lanes, wide, bookings, has_way):
        if has_way(lanes, bookings):
            hours = [hour for hour in ALL_HOURS if has_way(lanes, [*bookings, hour, hour + 1, wide])]
            should = [len(hours), *hours]
        else:
            should = [-33]
        answer = more(lanes, wide, bookings)
        if answer != should:
            self.fail(f"more({lanes}, {wide}, {bookings}) answered {answer}, not {should}")

    def put_has_way(self, lanes, bookings):
        return put(lanes, bookings) != [-33]

    def trying_finds_way(self, lanes, bookings):
        return first_way_by_trying(lanes, bookings) is not None

    def test_every_two_small_bookings_by_trying(self):
        shapes = [(*hours, wide) for hours in itertools.combinations((0, 1, 11, 12), 2) for wide in (1, 2)]
        for two in itertools.product(shapes, repeat=2):
            for lanes, wide in itertools.product(range(5), (1, 2, 3)):
                self.assert_told(lanes, wide, in_a_row(two), self.trying_finds_way)

    def test_some_of_three_small_bookings_by_trying(self):
        shapes = [(*hours, wide) for hours in itertools.combinations((3, 4, 5, 6), 2) for wide in (1, 2)]
        for three in itertools.combinations(shapes, 3):
            for wide in (1, 2):
                self.assert_told(3, wide, in_a_row(three), self.trying_finds_way)

    def test_five_bookings_by_trying(self):
        for lanes, wide in itertools.product((2, 3, 4), (1, 2, 3)):
            self.assert_told(lanes, wide, FIRST_BETWEEN_OTHERS, self.trying_finds_way)

    def test_every_two_small_bookings_by_put(self):
        shapes = [(*hours, wide) for hours in itertools.combinations((0, 1, 2, 12), 2) for wide in (1, 3)]
        for two in itertools.product(shapes, repeat=2):
            for lanes, wide in itertools.product(range(2, 7), (1, 2, 3, 4)):
                self.assert_told(lanes, wide, in_a_row(two), self.put_has_way)

    def test_every_order_of_four_bookings_by_put(self):
        for order in itertools.permutations([(0, 4, 3), (2, 9, 2), (3, 5, 4), (6, 12, 1)]):
            for lanes, wide in ((9, 1), (9, 5), (10, 8), (12, 3)):
                self.assert_told(lanes, wide, in_a_row(order), self.put_has_way)

    def test_every_lanes_and_width_of_five_bookings_by_put(self):
        for lanes, wide in itertools.product(range(13), range(1, 9)):
            self.assert_told(lanes, wide, FIVE, self.put_has_way)

    def test_every_four_of_five_bookings_by_put(self):
        for four in itertools.combinations(in_threes(FIRST_BETWEEN_OTHERS), 4):
            for wide in (1, 2, 3):
                self.assert_told(3, wide, in_a_row(four), self.put_has_way)


if __name__ == "__main__":
    unittest.main()
