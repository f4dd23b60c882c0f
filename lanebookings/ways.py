"""When a way to put bookings, each from its first lane on, is right."""


def share_lane(booking, first, other, other_first):
    """Whether two bookings, put from these first lanes on, have a lane in common."""
    return first < other_first + other.wide and other_first < first + booking.wide


def is_right(lanes, bookings, firsts):
    """Whether all stand within the lanes, and none on another's lane in the same hour."""
    for number, booking in enumerate(bookings):
        first = firsts[number]
        if first + booking.wide > lanes:
            return False
        for earlier in range(number):
            other = bookings[earlier]
            if booking.shares_hour_with(other) and share_lane(booking, first, other, firsts[earlier]):
                return False
    return True
