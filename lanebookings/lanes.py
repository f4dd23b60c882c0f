"""The calls: what is asked about bookings, and what is answered."""

from lanebookings.bookings import are_as_told, read_bookings
from lanebookings.ways import is_right

MOST_LANES = 24
MOST_FIRST = 100


def are_firsts_as_told(firsts, how_many):
    """Whether there is a first lane for each of so many bookings, none too high."""
    if len(firsts) != how_many:
        return False
    return all([0 <= first <= MOST_FIRST for first in firsts])


def right(lanes, bookings, firsts):
    """Answers [1] if the way to put all bookings is right, else [0].

    The refusal [-22] is for bookings, lanes or first lanes that aren't as told.
    """
    if not are_as_told(bookings) or not 0 <= lanes <= MOST_LANES:
        return [-22]
    told = read_bookings(bookings)
    if not are_firsts_as_told(firsts, len(told)):
        return [-22]
    if is_right(lanes, told, firsts):
        return [1]
    return [0]
