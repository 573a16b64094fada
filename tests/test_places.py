"""Places: zones of longitude, out of two halves, near a known place, and how old these may be."""

import math
import random
import unittest
from fractions import Fraction

from planesheard.angles import EDGES, Angle, beyond_a_pole, nearest_angle, zones_of_longitude
from planesheard.places import Half, Place, place_near, place_out_of_halves
from tests.helper import EDGES as DOCUMENT_EDGES
from tests.helper import PART, degrees_from_both, degrees_near, from_hex, half_at, half_fields, hearing
from tests.helper import squitter, told, told_degrees, zones_at

# Latitudes and longitudes all over the world: below 0, near the poles, near 180 degrees, near zones' borders.
LATITUDES = ("0", "0.00001", "-0.00001", "5.99", "-6.01", "10.4", "-10.5", "33.3333333", "-45.00123", "52.2572",
             "59.9", "-66.6", "77.7", "86.4", "-86.6", "87.5", "-88.8", "89.97", "-89.99", "90", "-90")
LONGITUDES = ("0", "0.00002", "-0.00002", "3.91937", "-3.1", "89.5", "-90.1", "123.456", "-135.7", "179.9999",
              "-179.9999", "180", "-180", "176.3", "-176.3")


def out_of(even, odd, last):
    """What the program tells out of (y0, x0) and (y1, x1)."""
    halves = [Half(0, even[0], even[1], 0), Half(1, odd[0], odd[1], 0)]
    return told(place_out_of_halves(halves[last], halves[1 - last]))


def near(known, half, odd):
    """What the program tells of a half (y, x) near a known place."""
    return told(place_near(known, Half(odd, half[0], half[1], 0)))


def place_at(latitude, longitude):
    """A known place at these degrees."""
    return Place(math.floor(Fraction(latitude) * 10 ** 7), math.floor(Fraction(longitude) * 10 ** 7))


class ZonesOfLongitude(unittest.TestCase):
    def exactly(self, hundred_millionths):
        """That many degrees times 10^8 as an angle."""
        return Angle(hundred_millionths * PART, 36000000000)

    def test_the_edges_are_those_of_the_document(self):
        self.assertEqual(list(EDGES), DOCUMENT_EDGES)

    def test_at_below_and_beyond_each_edge(self):
        for spot, edge in enumerate(EDGES):
            for sign in (1, -1):
                self.assertEqual(zones_of_longitude(self.exactly(sign * (edge - 1))), 59 - spot)
                self.assertEqual(zones_of_longitude(self.exactly(sign * edge)), 58 - spot)
                self.assertEqual(zones_of_longitude(self.exactly(sign * (edge + 1))), 58 - spot)

    def test_next_to_each_edge_by_a_part(self):
        for spot, edge in enumerate(EDGES):
            for zones in (60, 59):
                first = -(-edge * zones * PART // 36000000000)
                for sign in (1, -1):
                    self.assertEqual(zones_of_longitude(Angle(sign * first, zones)), 58 - spot)
                    self.assertEqual(zones_of_longitude(Angle(sign * (first - 1), zones)), 59 - spot)

    def test_the_edges_are_where_zones_are_as_wide_as_at_the_equator(self):
        for zones in range(3, 60):
            share = (1 - math.cos(math.pi / 30)) / (1 - math.cos(2 * math.pi / zones))
            edge = math.degrees(math.acos(math.sqrt(share))) * 10 ** 8
            self.assertLess(abs(EDGES[59 - zones] - edge), 0.51)
        self.assertEqual(EDGES[57], 8700000000)

    def test_at_the_equator_and_the_poles(self):
        self.assertEqual(zones_of_longitude(Angle(0, 60)), 59)
        self.assertEqual(zones_of_longitude(Angle(15 * PART, 60)), 1)
        self.assertEqual(zones_of_longitude(Angle(-15 * PART, 60)), 1)


class Angles(unittest.TestCase):
    def test_told_in_ten_millionths_towards_below(self):
        self.assertEqual(Angle(PART, 60).told(), 60000000)
        self.assertEqual(Angle(1, 60).told(), 457)
        self.assertEqual(Angle(-1, 60).told(), -458)
        self.assertEqual(Angle(-15 * PART, 60).told(), -900000000)
        self.assertEqual(Angle(1, 59).told(), 465)
        self.assertEqual(Angle(-59 * PART // 2, 59).told(), -1800000000)

    def test_beyond_a_pole(self):
        for sign in (1, -1):
            self.assertFalse(beyond_a_pole(Angle(sign * 15 * PART, 60)))
            self.assertTrue(beyond_a_pole(Angle(sign * (15 * PART + 1), 60)))
            self.assertFalse(beyond_a_pole(Angle(sign * 59 * PART // 4, 59)))
            self.assertTrue(beyond_a_pole(Angle(sign * (59 * PART // 4 + 1), 59)))

    def test_nearest(self):
        half = PART // 2
        # 234375 ten-millionths of a degree are just 512 parts of 60 zones.
        for times in (0, 1, -1, 1793, -1793):
            known, parts = 234375 * times, 512 * times
            for apart in (0, 1, -1, half - 1, half, 1 - half):
                self.assertEqual(nearest_angle(known, 60, (parts + apart) % PART).parts, parts + apart)
            self.assertEqual(nearest_angle(known, 60, (parts - half) % PART).parts, parts + half)

    def test_the_known_is_first_told_in_parts_towards_below(self):
        # A part of 60 zones is 457.7 ten-millionths: 457 are 0 parts, -1 is -1; half a zone from that goes up.
        half = PART // 2
        for known, parts in ((0, 0), (457, 0), (458, 1), (-1, -1), (-457, -1), (-458, -2)):
            self.assertEqual(nearest_angle(known, 60, parts + half).parts, parts + half)
            self.assertEqual(nearest_angle(known, 60, parts + half + 1).parts, parts + half + 1 - PART)


class OutOfTwoHalves(unittest.TestCase):
    def test_published(self):
        even, odd = from_hex("8D40621D58C382D690C8AC2863A7"), from_hex("8D40621D58C386435CC412692AD6")
        self.assertEqual(told(hearing((0, odd), (0, even)).known[0].place), (522572021, 39193725))
        aircraft = hearing((0, even), (0, odd)).known[0]
        self.assertEqual(told(aircraft.place), (522657801, 39389125))

    def test_all_over_the_world(self):
        places = 0
        for latitude in LATITUDES:
            for longitude in LONGITUDES:
                even, odd = half_at(latitude, longitude, 0), half_at(latitude, longitude, 1)
                for last in (0, 1):
                    given = out_of(even, odd, last)
                    self.assertEqual(given, told_degrees(degrees_from_both(even, odd, last)))
                    if given is not None:
                        places += 1
                        self.assertLess(abs(given[0] - Fraction(latitude) * 10 ** 7), 1000)
                        apart = (given[1] - Fraction(longitude) * 10 ** 7) % 3600000000
                        width = 360 * 10 ** 7 if abs(Fraction(latitude)) > 86 else 60000
                        self.assertLess(min(apart, 3600000000 - apart), width)
        self.assertGreater(places, 500)

    def test_any_two_halves(self):
        draw = random.Random(17)
        none = 0
        for turn in range(2000):
            even = (draw.randrange(PART), draw.randrange(PART))
            odd = (draw.randrange(PART), draw.randrange(PART))
            for last in (0, 1):
                wanted = told_degrees(degrees_from_both(even, odd, last))
                none += wanted is None
                self.assertEqual(out_of(even, odd, last), wanted)
        self.assertGreater(none, 1000)
        self.assertLess(none, 3900)

    def test_next_to_each_edge(self):
        none = 0
        for edge in EDGES:
            for sign in (1, -1):
                for step in (-40, -20, -1, 0, 1, 20, 40):
                    latitude = Fraction(sign * edge, 10 ** 8) + Fraction(step, 10 ** 6)
                    even, odd = half_at(latitude, "-70.5", 0), half_at(latitude, "-70.5", 1)
                    for last in (0, 1):
                        wanted = told_degrees(degrees_from_both(even, odd, last))
                        none += wanted is None
                        self.assertEqual(out_of(even, odd, last), wanted)
        self.assertGreater(none, 20)

    def test_none_where_the_zones_of_longitude_differ(self):
        # The even half stands at 87 degrees, where there's one zone, the odd one a part below it.
        even_y, odd_y = PART // 2, 87 * 59 * PART // 360 % PART
        self.assertIsNone(out_of((even_y, 5), (odd_y, 5), 0))
        self.assertIsNone(out_of((even_y, 5), (odd_y, 5), 1))
        self.assertEqual(out_of((even_y, 5), (odd_y + 1, 5), 0), (870000000, 137329))
        self.assertEqual(out_of((even_y - 1, 5), (odd_y, 5), 0)[0], 869999542)

    def test_j_halves_up(self):
        # 59 y0 - 60 y1 is half a zone at first, then half a zone below 0.
        self.assertEqual(59 * 1124 - 60 * 13, PART // 2)
        self.assertEqual(out_of((1124, 0), (13, 0), 0)[0], 60514526)
        y0, y1 = 16 + 60 * 18, (59 * (16 + 60 * 18) + PART // 2) // 60
        self.assertEqual(59 * y0 - 60 * y1, -PART // 2)
        self.assertEqual(out_of((y0, 0), (y1, 0), 0)[0], 6 * 10 ** 7 * y0 // PART)

    def test_m_halves_up(self):
        # At the equator 58 x0 - 59 x1 counts.
        for parts, m in ((PART // 2, 1), (PART // 2 - 1, 0), (-PART // 2, 0), (-PART // 2 - 1, -1)):
            x0, x1 = next((x0, (58 * x0 - parts) // 59) for x0 in range(3000, 3059) if (58 * x0 - parts) % 59 == 0)
            self.assertEqual(58 * x0 - 59 * x1, parts)
            self.assertEqual(out_of((0, x0), (0, x1), 0), (0, (m * PART + x0) * 3600000000 // (59 * PART)))
            self.assertEqual(out_of((0, x0), (0, x1), 1), (0, (m * PART + x1) * 3600000000 // (58 * PART)))

    def test_at_the_poles(self):
        quarter = PART // 4
        self.assertEqual(out_of((0, 7), (3 * quarter, 9), 0), (900000000, 7 * 3600000000 // PART))
        self.assertEqual(out_of((0, 7), (3 * quarter, 9), 1), (900000000, 9 * 3600000000 // PART))
        self.assertEqual(out_of((0, 7), (quarter, 9), 0), (-900000000, 7 * 3600000000 // PART))
        self.assertEqual(out_of((0, 7), (quarter, 9), 1), (-900000000, 9 * 3600000000 // PART))

    def test_none_beyond_the_poles(self):
        quarter = PART // 4
        for last in (0, 1):
            self.assertIsNone(out_of((1, 7), (3 * quarter, 9), last))
            self.assertIsNone(out_of((0, 7), (3 * quarter + 1, 9), last))
            self.assertIsNone(out_of((PART - 1, 7), (quarter, 9), last))
            self.assertIsNone(out_of((0, 7), (quarter - 1, 9), last))

    def test_180_degrees_are_told_as_below_0(self):
        for last in (0, 1):
            self.assertEqual(out_of((0, PART // 2), (0, 0), last), (0, -1800000000))
        self.assertEqual(out_of((0, PART // 2 - 1), (0, PART - 1), 0), (0, 1799999534))


class NearAKnownPlace(unittest.TestCase):
    def test_all_over_the_world(self):
        for latitude in LATITUDES:
            for longitude in LONGITUDES:
                known = place_at(latitude, longitude)
                for step in ("0", "0.4", "-0.4"):
                    there = Fraction(latitude) + Fraction(step), Fraction(longitude) + Fraction(step)
                    for odd in (0, 1):
                        half = half_at(max(-90, min(90, there[0])), there[1], odd)
                        wanted = told_degrees(degrees_near(told(known), half, odd))
                        self.assertEqual(near(known, half, odd), wanted)

    def test_any_half(self):
        draw = random.Random(23)
        none = 0
        for turn in range(2000):
            known = Place(draw.randrange(-9 * 10 ** 8, 9 * 10 ** 8 + 1), draw.randrange(-18 * 10 ** 8, 18 * 10 ** 8))
            half = (draw.randrange(PART), draw.randrange(PART))
            for odd in (0, 1):
                wanted = told_degrees(degrees_near(told(known), half, odd))
                none += wanted is None
                self.assertEqual(near(known, half, odd), wanted)
        self.assertGreater(none, 10)

    def test_of_two_the_upper_one(self):
        # Just 512 parts of 60 zones to the north, and 14399.9.. parts of 59 zones to the west: told as 14400.
        known = Place(234375, -6703522)
        half = (512 + PART // 2, PART // 2 - 14400)
        self.assertEqual(near(known, half, 0), (Angle(half[0], 60).told(), Angle(half[1], 59).told()))
        half = (512 + PART // 2 + 1, PART // 2 - 14400 + 1)
        self.assertEqual(near(known, half, 0), (Angle(half[0] - PART, 60).told(), Angle(half[1] - PART, 59).told()))

    def test_none_beyond_the_poles(self):
        for sign in (1, -1):
            known = place_at(sign * 90, 0)
            self.assertEqual(near(known, (0, 0), 0), (sign * 900000000, 0))
            self.assertIsNone(near(known, (sign % PART, 0), 0))
            self.assertIsNone(near(known, (sign * (59 * PART // 4 + 1) % PART, 0), 1))

    def test_zones_of_longitude_are_those_of_the_half(self):
        # The known stands just below 87 degrees, with 2 zones, the half at 87, with 1.
        known = place_at("86.9999542", 90)
        self.assertEqual(near(known, (PART // 2, PART // 2), 0), (870000000, -1800000000))
        self.assertEqual(near(known, (PART // 2 - 1, PART // 2), 0), (869999542, 900000000))

    def test_one_zone_at_least(self):
        known = place_at(90, 0)
        self.assertEqual(near(known, (3 * PART // 4, 100), 1), (900000000, Angle(100, 1).told()))

    def test_across_180_degrees(self):
        east = place_at(0, "179.9995")
        west = place_at(0, "-179.9995")
        half = PART // 2
        self.assertEqual(near(east, (0, half - 1), 0), (0, Angle(59 * half - 1, 59).told()))
        self.assertEqual(near(east, (0, half), 0), (0, -1800000000))
        self.assertEqual(near(east, (0, half + 1), 0), (0, Angle(-59 * half + 1, 59).told()))
        self.assertEqual(near(west, (0, half + 1), 0), (0, Angle(-59 * half + 1, 59).told()))
        self.assertEqual(near(west, (0, half), 0), (0, -1800000000))
        self.assertEqual(near(west, (0, half - 1), 0), (0, Angle(59 * half - 1, 59).told()))


class WhenHeard(unittest.TestCase):
    """Halves heard one behind another by a receiver."""

    even = half_at("48.1", "11.5", 0)
    odd = half_at("48.1", "11.5", 1)

    def heard(self, *halves):
        """The place after halves (t, odd, (y, x)) of one aircraft; other messages keep it known."""
        rows = [(t, squitter(9, half_fields(odd, half[0], half[1]))) for t, odd, half in halves]
        return told(hearing(*rows).known[0].place)

    def near(self, latitude, longitude, place):
        """Whether a place is told to be within some metres."""
        self.assertIsNotNone(place)
        self.assertLess(abs(Fraction(latitude) * 10 ** 7 - place[0]), 600)
        self.assertLess(abs(Fraction(longitude) * 10 ** 7 - place[1]), 900)

    def test_one_half_alone_tells_no_place(self):
        self.assertIsNone(self.heard((0, 0, self.even)))
        self.assertIsNone(self.heard((0, 0, self.even), (1, 0, self.even)))
        self.assertIsNone(self.heard((0, 1, self.odd), (1, 1, self.odd)))

    def test_in_both_orders(self):
        wanted = [told_degrees(degrees_from_both(self.even, self.odd, last)) for last in (0, 1)]
        self.assertEqual(self.heard((0, 0, self.even), (0, 1, self.odd)), wanted[1])
        self.assertEqual(self.heard((0, 1, self.odd), (0, 0, self.even)), wanted[0])
        self.near("48.1", "11.5", wanted[0])
        self.near("48.1", "11.5", wanted[1])

    def test_the_latest_of_its_kind_counts(self):
        away = half_at("-30", "100", 0)
        self.near("48.1", "11.5", self.heard((0, 0, away), (1, 0, self.even), (2, 1, self.odd)))

    def test_halves_of_10000(self):
        for first, last in ((0, 1), (1, 0)):
            halves = (self.even, self.odd)
            self.near("48.1", "11.5", self.heard((5, first, halves[first]), (10005, last, halves[last])))
            self.assertIsNone(self.heard((5, first, halves[first]), (10006, last, halves[last])))

    def test_halves_of_two_aircraft_are_kept_apart(self):
        receiver = hearing((0, squitter(1, half_fields(0, *self.even))), (0, squitter(2, half_fields(1, *self.odd))))
        self.assertEqual([aircraft.place for aircraft in receiver.known], [None, None])

    def test_near_a_place_of_60000(self):
        pair = (0, 0, self.even), (7, 1, self.odd)
        later = half_at("48.5", "11.9", 0)
        self.near("48.5", "11.9", self.heard(*pair, (60007, 0, later)))
        self.near("48.1", "11.5", self.heard(*pair, (60008, 0, later)))

    def test_a_place_told_near_another_counts_from_its_own_time(self):
        rows = [(0, 0, self.even), (0, 1, self.odd)]
        for turn in range(1, 5):
            there = str(Fraction(481, 10) + turn), str(Fraction(115, 10) + turn)
            rows.append((60000 * turn, 0, half_at(*there, 0)))
            self.near(*there, self.heard(*rows))
        rows.append((300001, 0, half_at("48.1", "11.5", 0)))
        self.near("52.1", "15.5", self.heard(*rows))

    def test_both_halves_go_before_a_known_place(self):
        away = half_at("-30", "100", 0), half_at("-30", "100", 1)
        rows = (0, 0, self.even), (0, 1, self.odd), (20000, 0, away[0]), (20001, 1, away[1])
        self.near("-30", "100", self.heard(*rows))

    def test_near_where_both_halves_fit_no_place(self):
        # An even half north of 87 degrees and an odd one south of it: the zones of longitude differ.
        even_y, odd_y = PART // 2, 87 * 59 * PART // 360 % PART
        rows = (0, 0, (even_y, 5)), (0, 1, (odd_y + 1, 5))
        known = told_degrees(degrees_from_both((even_y, 5), (odd_y + 1, 5), 1))
        self.assertEqual(self.heard(*rows), known)
        self.assertEqual(self.heard(*rows, (1, 1, (odd_y, 6))), told_degrees(degrees_near(known, (odd_y, 6), 1)))
        self.assertIsNone(self.heard((0, 0, (even_y, 5)), (0, 1, (odd_y, 5))))

    def test_stays_where_neither_way_tells_one(self):
        quarter = PART // 4
        rows = (0, 0, (0, 7)), (0, 1, (3 * quarter, 9))
        self.assertEqual(self.heard(*rows, (5, 0, (1, 100))), self.heard(*rows))

    def test_a_place_that_stayed_is_as_old_as_before(self):
        quarter = PART // 4
        rows = (0, 0, (0, 7)), (0, 1, (3 * quarter, 9)), (50000, 0, (1, 100))
        self.assertEqual(self.heard(*rows, (60000, 0, (0, 100)))[1], Angle(100, 1).told())
        self.assertEqual(self.heard(*rows, (60001, 0, (0, 100))), self.heard(*rows))

    def test_a_half_is_kept_also_where_it_tells_no_place(self):
        away = half_at("-30", "100", 0), half_at("-30", "100", 1)
        rows = (0, 0, self.even), (0, 1, self.odd), (70000, 0, away[0])
        self.near("48.1", "11.5", self.heard(*rows))
        self.near("-30", "100", self.heard(*rows, (80000, 1, away[1])))

    def test_the_known_place_is_the_one_that_is_told(self):
        # The told latitude is a bit below its half's y: what lies half a zone away is nearer below, a part less above.
        last = degrees_from_both(self.even, self.odd, 0)
        parts = int(last[0] * 60 * PART / 360)
        self.assertLess(told_degrees(last)[0], last[0] * 10 ** 7)
        rows = (0, 1, self.odd), (0, 0, self.even)
        for away, wanted in ((PART // 2, parts - PART // 2), (PART // 2 - 1, parts + PART // 2 - 1)):
            third = (self.even[0] + away) % PART, self.even[1]
            self.assertEqual(self.heard(*rows, (20000, 0, third))[0], Angle(wanted, 60).told())

    def test_the_known_longitude_is_the_one_that_is_told(self):
        last = degrees_from_both(self.even, self.odd, 1)
        zones = zones_at(last[0]) - 1
        parts = int(last[1] * zones * PART / 360)
        self.assertLess(told_degrees(last)[1], last[1] * 10 ** 7)
        rows = (0, 0, self.even), (0, 1, self.odd)
        for away, wanted in ((PART // 2, parts - PART // 2), (PART // 2 - 1, parts + PART // 2 - 1)):
            third = self.odd[0], (self.odd[1] + away) % PART
            self.assertEqual(self.heard(*rows, (20000, 1, third))[1], Angle(wanted, zones).told())


if __name__ == "__main__":
    unittest.main()
