"""Places: out of two halves, or out of one half near a known place."""

from planesheard.angles import Angle, HALF_ZONE, PARTS, beyond_a_pole, nearest_angle, zones_of_longitude

EVEN_ZONES = 60
ODD_ZONES = 59


class Half:
    """Half a place: where in a zone an aircraft is, and when that was heard."""

    def __init__(self, odd, y, x, heard):
        self.odd = odd
        self.y = y
        self.x = x
        self.heard = heard


class Place:
    """What is known of a place: its latitude and longitude as they are told, in ten-millionths of a degree."""

    def __init__(self, latitude, longitude):
        self.latitude = latitude
        self.longitude = longitude


def place_out_of_halves(last, other):
    """The place of the half that came last, with the half of the other kind; None if there is none."""
    even = other if last.odd == 1 else last
    odd = last if last.odd == 1 else other
    j = nearest_whole_zone(ODD_ZONES * even.y - EVEN_ZONES * odd.y)
    even_latitude = latitude_in_zone(j, EVEN_ZONES, even.y)
    odd_latitude = latitude_in_zone(j, ODD_ZONES, odd.y)
    if beyond_a_pole(even_latitude) or beyond_a_pole(odd_latitude):
        return None
    k = zones_of_longitude(even_latitude)
    if zones_of_longitude(odd_latitude) != k:
        return None
    m = nearest_whole_zone(even.x * (k - 1) - odd.x * k)
    longitude = longitude_in_zone(m, zones_for_half(k, last), last.x)
    latitude = odd_latitude if last.odd == 1 else even_latitude
    return Place(latitude.told(), longitude.told())


def place_near(known, half):
    """The place of a half that is nearest to a known place; None if there is none."""
    zones = ODD_ZONES if half.odd == 1 else EVEN_ZONES
    latitude = nearest_angle(known.latitude, zones, half.y)
    if beyond_a_pole(latitude):
        return None
    zones = zones_for_half(zones_of_longitude(latitude), half)
    longitude = within_half_a_circle(nearest_angle(known.longitude, zones, half.x))
    return Place(latitude.told(), longitude.told())


def nearest_whole_zone(parts):
    """So many parts in zones, to the nearest whole number, halves up."""
    return (parts + HALF_ZONE) // PARTS


def latitude_in_zone(j, zones, y):
    """The latitude at part y of the j-th zone; the south is told by numbers below 0."""
    latitude = Angle(j % zones * PARTS + y, zones)
    return latitude.moved(-1) if latitude.reaches(3) else latitude


def longitude_in_zone(m, zones, x):
    """The longitude at part x of the m-th zone; the west is told by numbers below 0."""
    return within_half_a_circle(Angle(m % zones * PARTS + x, zones))


def zones_for_half(k, half):
    """How many zones of longitude a half counts where there are k: one less if it's odd, 1 at least."""
    return max(1, k - half.odd)


def within_half_a_circle(longitude):
    """The same longitude, from -180 degrees to less than 180."""
    if longitude.reaches(2):
        return longitude.moved(-1)
    if not longitude.reaches(-2):
        return longitude.moved(1)
    return longitude
