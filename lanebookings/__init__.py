"""Lanes side by side: bookings of lanes beside one another, for some hours."""
