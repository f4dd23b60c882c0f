"""When a way to put bookings is right, which is the first, how few lanes have one, and when there's room for more."""

from lanebookings.bookings import LAST_END, Booking, most_asked_for


def share_lane(booking, first, other, other_first):
    """Whether two bookings, put from these first lanes on, have a lane in common."""
    return first < other_first + other.wide and other_first < first + booking.wide


def collide(booking, first, other, other_first):
    """Whether two bookings, put from these first lanes on, have a lane in common in the same hour."""
    return booking.shares_hour_with(other) and share_lane(booking, first, other, other_first)


def is_right(lanes, bookings, firsts):
    """Whether all stand within the lanes, and none on another's lane in the same hour."""
    for number, booking in enumerate(bookings):
        first = firsts[number]
        if first + booking.wide > lanes:
            return False
        for earlier in range(number):
            if collide(booking, first, bookings[earlier], firsts[earlier]):
                return False
    return True


def least_free_first(booking, placed):
    """The least first lane at which the booking collides with none of those placed.

    Those placed are pairs: a booking and its first lane.
    """
    first = 0
    # From the lowest one up, as then none that was passed is met again.
    for other, other_first in sorted(placed, key=lambda pair: pair[1]):
        if collide(booking, first, other, other_first):
            first = other_first + other.wide
    return first


def fits_in_order(lanes, placed, order):
    """Whether all of the order find room if put one by one, each as low as it goes."""
    standing = list(placed)
    for booking in order:
        first = least_free_first(booking, standing)
        if first + booking.wide > lanes:
            return False
        standing.append((booking, first))
    return True


def all_orders(bookings):
    """Every order in which the bookings can be taken."""
    orders = [[]]
    for booking in bookings:
        longer = []
        for order in orders:
            for at in range(len(order) + 1):
                longer.append(order[:at] + [booking] + order[at:])
        orders = longer
    return orders


def has_way(lanes, bookings, firsts):
    """Whether a right way begins with these first lanes, of the first so many bookings."""
    begun = bookings[:len(firsts)]
    if not is_right(lanes, begun, firsts):
        return False
    placed = list(zip(begun, firsts))
    # Trying all orders is enough: if those left are taken by their first lanes in
    # a right way, rising, and each is put as low as it goes, none comes to stand
    # higher than it does in that way.
    for order in all_orders(bookings[len(firsts):]):
        if fits_in_order(lanes, placed, order):
            return True
    return False


def first_lane_of_next(lanes, bookings, firsts):
    """The least first lane of the next booking with which a right way goes on, None if there's none."""
    for first in range(lanes):
        if has_way(lanes, bookings, firsts + [first]):
            return first
    return None


def find_first_way(lanes, bookings):
    """The first lanes of the first right way, None if there's none."""
    firsts = []
    while len(firsts) < len(bookings):
        first = first_lane_of_next(lanes, bookings, firsts)
        if first is None:
            return None
        firsts.append(first)
    return firsts


def find_fewest(bookings):
    """The least number of lanes for which there's a right way."""
    lanes = most_asked_for(bookings)
    # Even where all that's asked for has room, it may not be cut up as it must
    # be: each booking needs the same lanes, beside one another, in all its hours.
    while not has_way(lanes, bookings, []):
        lanes += 1
    return lanes


def hours_for_one_more(lanes, wide, bookings):
    """The hours for each of which alone one more, so wide, has a place beside all others, rising."""
    # The others may be put anew each time, so what is asked is whether there's
    # any right way for all of them.
    return [
        hour for hour in range(LAST_END)
        if has_way(lanes, bookings + [Booking(hour, hour + 1, wide)], [])
    ]
