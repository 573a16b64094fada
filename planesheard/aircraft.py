"""One aircraft, with all that has been heard of it."""

from planesheard.extended import climb_in, half_in, height_in, name_in, speeds_in
from planesheard.places import place_near, place_out_of_halves

# How old, in milliseconds, what a place is made out of may be.
OLDEST_HALF = 10000
OLDEST_PLACE = 60000

# What is told for a number that isn't known.
UNKNOWN = -2147483648


class Aircraft:
    """What is known of an aircraft; None stands for what isn't known."""

    def __init__(self, address):
        self.address = address
        self.heard = 0
        self.name = None
        self.height = None
        self.identity = None
        self.east = None
        self.north = None
        self.climb = None
        self.place = None
        self.place_heard = 0
        # The latest even half, then the latest odd one.
        self.halves = [None, None]

    def numbers_at(self, now):
        """The nine numbers that are told of it at this time."""
        latitude = None if self.place is None else self.place.latitude
        longitude = None if self.place is None else self.place.longitude
        numbers = [self.address, self.height, latitude, longitude, self.east, self.north, self.climb, self.identity,
                   now - self.heard]
        return [UNKNOWN if number is None else number for number in numbers]

    def take_height(self, height):
        """Keeps a height, if one was said."""
        if height is not None:
            self.height = height

    def take_extended(self, extended, now):
        """Keeps what an extended message says; what it doesn't say stays as it was."""
        name = name_in(extended)
        if name is not None:
            self.name = name
        self.take_height(height_in(extended))
        half = half_in(extended, now)
        if half is not None:
            self.take_half(half)
        speeds = speeds_in(extended)
        if speeds is not None:
            self.east = speeds[0]
            self.north = speeds[1]
        climb = climb_in(extended)
        if climb is not None:
            self.climb = climb

    def take_half(self, half):
        """Keeps a half as the latest of its kind, and the place that it tells, if any."""
        self.halves[half.odd] = half
        place = self.place_by_both(half)
        if place is None:
            place = self.place_by_known(half)
        if place is not None:
            self.place = place
            self.place_heard = half.heard

    def place_by_both(self, half):
        """The place out of this half and the other kind's; None if that is missing, too old or doesn't fit."""
        other = self.halves[1 - half.odd]
        if other is None or half.heard - other.heard > OLDEST_HALF:
            return None
        return place_out_of_halves(half, other)

    def place_by_known(self, half):
        """The place of this half near the known one; None if that is missing, too old or doesn't fit."""
        if self.place is None or half.heard - self.place_heard > OLDEST_PLACE:
            return None
        return place_near(self.place, half)
