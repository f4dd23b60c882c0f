"""The calls: what is asked about bookings, and what is answered."""

from lanebookings.bookings import (
    MOST_BOOKINGS, are_as_told, is_width_as_told, most_asked_for, peak_hours, read_bookings,
)
from lanebookings.ways import find_fewest, find_first_way, has_way, hours_for_one_more, is_right

MOST_LANES = 24
MOST_LANES_OF_MORE = 12
MOST_FIRST = 100


def are_lanes_as_told(lanes, most):
    """Whether there are not more lanes than the most that the call takes."""
    return 0 <= lanes <= most


def are_firsts_as_told(firsts, how_many):
    """Whether there is a first lane for each of so many bookings, none too high."""
    if len(firsts) != how_many:
        return False
    return all([0 <= first <= MOST_FIRST for first in firsts])


def right(lanes, bookings, firsts):
    """Answers [1] if the way to put all bookings is right, else [0].

    The refusal [-22] is for bookings, lanes or first lanes that aren't as told.
    """
    if not are_as_told(bookings) or not are_lanes_as_told(lanes, MOST_LANES):
        return [-22]
    told = read_bookings(bookings)
    if not are_firsts_as_told(firsts, len(told)):
        return [-22]
    if is_right(lanes, told, firsts):
        return [1]
    return [0]


def put(lanes, bookings):
    """Answers how many bookings, then the first lanes of the first right way.

    The refusal [-22] is for bookings or lanes that aren't as told, [-33] if
    there's no right way.
    """
    if not are_as_told(bookings) or not are_lanes_as_told(lanes, MOST_LANES):
        return [-22]
    firsts = find_first_way(lanes, read_bookings(bookings))
    if firsts is None:
        return [-33]
    return [len(firsts)] + firsts


def fewest(bookings):
    """Answers how few lanes are enough for all bookings.

    The refusal [-22] is for bookings that aren't as told.
    """
    if not are_as_told(bookings):
        return [-22]
    return [find_fewest(read_bookings(bookings))]


def peak(bookings):
    """Answers the most that's asked for in an hour, then in how many hours, then these.

    The refusal [-22] is for bookings that aren't as told.
    """
    if not are_as_told(bookings):
        return [-22]
    told = read_bookings(bookings)
    hours = peak_hours(told)
    return [most_asked_for(told), len(hours)] + hours


def more(lanes, wide, bookings):
    """Answers in how many hours one more, so wide, for that hour alone, could be put, then these.

    The refusal [-22] is for bookings, lanes or a width that aren't as told, [-28]
    if there are as many bookings as may be, [-33] if there's no right way for
    those there are.
    """
    if not are_as_told(bookings) or not are_lanes_as_told(lanes, MOST_LANES_OF_MORE) or not is_width_as_told(wide):
        return [-22]
    told = read_bookings(bookings)
    if len(told) == MOST_BOOKINGS:
        return [-28]
    if not has_way(lanes, told, []):
        return [-33]
    hours = hours_for_one_more(lanes, wide, told)
    return [len(hours)] + hours
