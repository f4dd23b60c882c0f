"""Tests of what holds over all calls together: a, b and c of the document."""

import itertools
import unittest

from lanebookings.lanes import fewest, more, peak, put, right
from tests.helpers import FIRST_BETWEEN_OTHERS, in_a_row, in_threes

SOME_BOOKINGS = (
    [],
    [11, 12, 8],
    [0, 12, 1, 11, 12, 1],
    [3, 5, 2, 5, 7, 2],
    [9, 11, 2, 10, 12, 3],
    [0, 1, 1, 0, 2, 1, 1, 2, 2],
    [0, 3, 8, 3, 4, 1, 3, 12, 7],
    [0, 1, 1, 0, 3, 1, 2, 3, 2, 0, 1, 1],
    FIRST_BETWEEN_OTHERS,
    [0, 3, 1, 1, 2, 2, 1, 4, 1, 2, 5, 1, 3, 4, 2],
    [0, 3, 2, 1, 5, 3, 2, 8, 1, 4, 9, 2, 7, 12, 4],
    [0, 12, 2] * 5,
    FIRST_BETWEEN_OTHERS + [0, 3, 2],
    [0, 4, 8, 2, 7, 5, 3, 5, 3, 6, 12, 7, 1, 12, 2, 4, 8, 6],
    [0, 12, 4] * 6,
)
SMALL_SHAPES = [(*hours, wide) for hours in itertools.combinations((0, 1, 2, 12), 2) for wide in (1, 2)]


def some_and_small_bookings():
    yield from SOME_BOOKINGS
    for three in itertools.combinations_with_replacement(SMALL_SHAPES, 3):
        yield in_a_row(three)


def orders_of(bookings):
    """Some ways to tell the same bookings in another order; all ways, if they are few."""
    threes = in_threes(bookings)
    if len(threes) <= 4:
        return list(itertools.permutations(threes))
    turned = [(*threes[turn:], *threes[:turn]) for turn in range(len(threes))]
    return turned + [order[::-1] for order in turned]


def with_one_left_out(bookings):
    for at in range(0, len(bookings), 3):
        yield bookings[:at] + bookings[at + 3:]


def can_hold_one_more(bookings):
    return len(bookings) < 18


class AWayIsToldJustIfThereIsOne(unittest.TestCase):
    def test_put_tells_one_just_if_so_many_lanes_are_enough(self):
        for bookings in some_and_small_bookings():
            enough = fewest(bookings)[0]
            for lanes in range(25):
                with self.subTest(lanes=lanes, bookings=bookings):
                    self.assertEqual(put(lanes, bookings) != [-33], lanes >= enough)

    def test_right_says_yes_of_what_put_tells(self):
        for bookings in some_and_small_bookings():
            for lanes in range(fewest(bookings)[0], 25):
                number, *firsts = put(lanes, bookings)
                with self.subTest(lanes=lanes, bookings=bookings):
                    self.assertEqual(number, len(bookings) // 3)
                    self.assertEqual(right(lanes, bookings, firsts), [1])

    def test_right_says_no_of_every_way_ahead_of_the_one_that_put_tells(self):
        for bookings in ([0, 1, 1, 0, 2, 1, 1, 2, 2], [0, 1, 1, 0, 3, 1, 2, 3, 2], FIRST_BETWEEN_OTHERS):
            for lanes in range(5):
                told = put(lanes, bookings)
                for firsts in itertools.product(range(lanes), repeat=len(bookings) // 3):
                    if [len(firsts), *firsts] == told:
                        break
                    self.assertEqual(right(lanes, bookings, list(firsts)), [0])
                else:
                    self.assertEqual(told, [-33])

    def test_more_says_that_there_is_none_just_if_put_does(self):
        for bookings in filter(can_hold_one_more, some_and_small_bookings()):
            for lanes in range(13):
                with self.subTest(lanes=lanes, bookings=bookings):
                    self.assertEqual(more(lanes, 1, bookings) == [-33], put(lanes, bookings) == [-33])

    def test_more_tells_the_hours_for_which_the_lanes_are_enough(self):
        for bookings in filter(can_hold_one_more, SOME_BOOKINGS):
            for lanes, wide in itertools.product(range(13), (1, 2, 5, 8)):
                if lanes < fewest(bookings)[0]:
                    continue
                hours = [hour for hour in range(12) if fewest([*bookings, hour, hour + 1, wide])[0] <= lanes]
                with self.subTest(lanes=lanes, wide=wide, bookings=bookings):
                    self.assertEqual(more(lanes, wide, bookings), [len(hours), *hours])


class SoManyLanesAreEnough(unittest.TestCase):
    def test_one_fewer_are_not(self):
        for bookings in some_and_small_bookings():
            enough = fewest(bookings)[0]
            if not 1 <= enough <= 24:
                continue
            with self.subTest(bookings=bookings):
                self.assertNotEqual(put(enough, bookings), [-33])
                self.assertEqual(put(enough - 1, bookings), [-33])

    def test_for_more_too(self):
        for bookings in filter(can_hold_one_more, some_and_small_bookings()):
            enough = fewest(bookings)[0]
            if not 1 <= enough <= 12:
                continue
            with self.subTest(bookings=bookings):
                self.assertGreaterEqual(more(enough, 1, bookings)[0], 0)
                self.assertEqual(more(enough - 1, 1, bookings), [-33])

    def test_never_fewer_than_the_peak(self):
        for bookings in some_and_small_bookings():
            with self.subTest(bookings=bookings):
                self.assertGreaterEqual(fewest(bookings)[0], peak(bookings)[0])

    def test_never_room_for_one_more_above_the_peak(self):
        for bookings in filter(can_hold_one_more, SOME_BOOKINGS):
            for lanes, wide in itertools.product(range(fewest(bookings)[0], 13), (1, 2, 5, 8)):
                for hour in more(lanes, wide, bookings)[1:]:
                    self.assertLessEqual(peak([*bookings, hour, hour + 1, wide])[0], lanes)

    def test_the_peak_if_all_are_as_wide(self):
        for told, wide in itertools.product(SOME_BOOKINGS, (1, 2, 4)):
            bookings = in_a_row((begin, end, wide) for begin, end, _ in in_threes(told))
            most = peak(bookings)[0]
            with self.subTest(bookings=bookings):
                self.assertEqual(fewest(bookings), [most])
                self.assertEqual(put(most, bookings)[0], len(bookings) // 3)
                if most > 0:
                    self.assertEqual(put(most - 1, bookings), [-33])


class InWhateverOrder(unittest.TestCase):
    def test_as_many_are_needed_and_asked_for(self):
        for bookings in some_and_small_bookings():
            needed, asked_for = fewest(bookings), peak(bookings)
            for order in orders_of(bookings):
                with self.subTest(order=order):
                    self.assertEqual(fewest(in_a_row(order)), needed)
                    self.assertEqual(peak(in_a_row(order)), asked_for)

    def test_there_is_a_way_or_there_is_none(self):
        for bookings in SOME_BOOKINGS:
            enough = fewest(bookings)[0]
            for order in orders_of(bookings):
                for lanes in range(max(enough - 1, 0), min(enough + 2, 25)):
                    with self.subTest(lanes=lanes, order=order):
                        self.assertEqual(put(lanes, in_a_row(order)) == [-33], lanes < enough)

    def test_a_way_told_in_another_order_is_as_right(self):
        for bookings in SOME_BOOKINGS:
            number, *firsts = put(24, bookings)
            for order in itertools.islice(itertools.permutations(range(number)), 120):
                turned = in_a_row(in_threes(bookings)[at] for at in order)
                self.assertEqual(right(24, turned, [firsts[at] for at in order]), [1])

    def test_one_more_has_room_in_the_same_hours(self):
        for bookings in filter(can_hold_one_more, SOME_BOOKINGS):
            enough = fewest(bookings)[0]
            for lanes in range(max(enough - 1, 0), min(enough + 3, 13)):
                answer = more(lanes, 2, bookings)
                for order in orders_of(bookings):
                    with self.subTest(lanes=lanes, order=order):
                        self.assertEqual(more(lanes, 2, in_a_row(order)), answer)


class ABookingLess(unittest.TestCase):
    def test_never_needs_more(self):
        for bookings in some_and_small_bookings():
            for fewer in with_one_left_out(bookings):
                with self.subTest(bookings=bookings, fewer=fewer):
                    self.assertLessEqual(fewest(fewer)[0], fewest(bookings)[0])
                    self.assertLessEqual(peak(fewer)[0], peak(bookings)[0])

    def test_still_has_a_way(self):
        for bookings in SOME_BOOKINGS:
            enough = fewest(bookings)[0]
            for fewer in with_one_left_out(bookings):
                with self.subTest(bookings=bookings, fewer=fewer):
                    self.assertEqual(put(enough, fewer)[0], len(fewer) // 3)

    def test_still_has_room_for_one_more_in_all_hours_told(self):
        for bookings in filter(can_hold_one_more, SOME_BOOKINGS):
            for lanes in range(fewest(bookings)[0], 13):
                hours = more(lanes, 2, bookings)[1:]
                for fewer in with_one_left_out(bookings):
                    with self.subTest(lanes=lanes, bookings=bookings, fewer=fewer):
                        self.assertLessEqual(set(hours), set(more(lanes, 2, fewer)[1:]))


if __name__ == "__main__":
    unittest.main()
