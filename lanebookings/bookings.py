"""What a booking is, when bookings are as told, and how much they ask for."""

NUMBERS_OF_EACH = 3
MOST_BOOKINGS = 6
LAST_END = 12
WIDEST = 8


def is_width_as_told(wide):
    """Whether it's a width that a booking may have."""
    return 1 <= wide <= WIDEST


class Booking:
    """From an hour up to, not with, another one; so many lanes wide."""

    def __init__(self, begin, end, wide):
        self.begin = begin
        self.end = end
        self.wide = wide

    def is_as_told(self):
        """Whether the hours and the width are among those a booking may have."""
        return 0 <= self.begin < self.end <= LAST_END and is_width_as_told(self.wide)

    def has_hour(self, hour):
        """Whether the hour is one of its own."""
        return self.begin <= hour < self.end

    def shares_hour_with(self, other):
        """Whether the two have an hour in common."""
        # The end isn't one of the hours, so two that meet there share none.
        return self.begin < other.end and other.begin < self.end


def read_bookings(numbers):
    """The bookings that are told as three numbers each, one behind another."""
    return [
        Booking(numbers[at], numbers[at + 1], numbers[at + 2])
        for at in range(0, len(numbers), NUMBERS_OF_EACH)
    ]


def are_as_told(numbers):
    """Whether the numbers tell bookings, not too many, each as it may be."""
    if len(numbers) % NUMBERS_OF_EACH != 0:
        return False
    if len(numbers) > NUMBERS_OF_EACH * MOST_BOOKINGS:
        return False
    return all([booking.is_as_told() for booking in read_bookings(numbers)])


def asked_for_in(hour, bookings):
    """How many lanes the bookings that have the hour ask for together."""
    return sum([booking.wide for booking in bookings if booking.has_hour(hour)])


def most_asked_for(bookings):
    """How many lanes are asked for in the hour in which it's the most."""
    return max([asked_for_in(hour, bookings) for hour in range(LAST_END)])


def peak_hours(bookings):
    """The hours in which the most is asked for, rising."""
    most = most_asked_for(bookings)
    # Where nothing is asked for at all, all hours are alike, but none counts.
    if most == 0:
        return []
    return [hour for hour in range(LAST_END) if asked_for_in(hour, bookings) == most]
