"""What extended messages say of an aircraft, and what stays as it was."""

import unittest

from tests.helper import fields, from_hex, half_fields, hearing, name_fields, speed_fields, squitter, text, told

KEPT = ("name", "height", "identity", "east", "north", "climb", "place", "halves")


def said(*extended):
    """What is known of an aircraft that sent these, one behind another."""
    aircraft = hearing(*[(0, squitter(9, one)) for one in extended]).known[0]
    return {kept: getattr(aircraft, kept) for kept in KEPT}


NOTHING = {"name": None, "height": None, "identity": None, "east": None, "north": None, "climb": None,
           "place": None, "halves": [None, None]}
LETTER = [1] * 8


class Kinds(unittest.TestCase):
    def test_which_say_what(self):
        for kind in range(32):
            # The same bits for all: bits 6 to 8 are 1, all characters and sizes are there.
            bits = fields(kind, (6, 8, 1), *[(9 + 6 * i, 14 + 6 * i, 21) for i in range(8)])
            known = said(bits)
            self.assertEqual(known["name"] is not None, 1 <= kind <= 4, kind)
            self.assertEqual(known["halves"] != [None, None], 9 <= kind <= 18 or 20 <= kind <= 22, kind)
            self.assertEqual(known["height"] is not None, 9 <= kind <= 18, kind)
            self.assertEqual(known["east"] is not None, kind == 19, kind)
            self.assertEqual(known["north"] is not None, kind == 19, kind)
            self.assertEqual(known["climb"] is not None, kind == 19, kind)
            if kind in (0, 5, 6, 7, 8) or kind >= 23:
                self.assertEqual(known, NOTHING)

    def test_one_that_says_nothing_still_tells_that_it_is_there(self):
        receiver = hearing((0, squitter(1)), (1, squitter(2)), (2, squitter(1, fields(31))))
        self.assertEqual([(aircraft.address, aircraft.heard) for aircraft in receiver.known], [(1, 2), (2, 1)])

    def test_what_is_not_said_stays(self):
        halves = half_fields(0, 11, 22, 9, 0x010), half_fields(1, 33, 44)
        speeds = speed_fields(1, (0, 2), (1, 3), (0, 4))
        whole = said(name_fields(4, LETTER), *halves, speeds)
        for last in (fields(0), fields(23, (9, 56, 12345)), name_fields(1, [0] * 8), speed_fields(3, (0, 9), (0, 9)),
                     speed_fields(1), speed_fields(2, (1, 0), (1, 0), (1, 0))):
            after = said(name_fields(4, LETTER), *halves, speeds, last)
            for kept in ("name", "height", "identity", "east", "north", "climb"):
                self.assertEqual(after[kept], whole[kept])
            self.assertEqual(told(after["place"]), told(whole["place"]))
        self.assertEqual((text(whole["name"]), whole["height"], whole["east"], whole["north"], whole["climb"]),
                         ("AAAAAAAA", -1000, 1, -2, 192))


class Names(unittest.TestCase):
    def test_published(self):
        aircraft = hearing((0, from_hex("8D4840D6202CC371C32CE0576098"))).known[0]
        self.assertEqual((aircraft.address, text(aircraft.name)), (0x4840D6, "KLM1023 "))

    def test_every_character_at_every_spot(self):
        for sign in range(64):
            for spot in range(8):
                signs = [48 + i for i in range(8)]
                signs[spot] = sign
                name = text(said(name_fields(1 + spot % 4, signs))["name"])
                if 1 <= sign <= 26:
                    wanted = "ABCDEFGHIJKLMNOPQRSTUVWXYZ"[sign - 1]
                elif sign == 32 or 48 <= sign <= 57:
                    wanted = chr(sign)
                else:
                    self.assertIsNone(name)
                    continue
                self.assertEqual(name, "01234567"[:spot] + wanted + "01234567"[spot + 1:])

    def test_bits_6_to_8_do_not_matter(self):
        self.assertEqual(text(said(name_fields(4, LETTER) | 7 << 48)["name"]), "AAAAAAAA")

    def test_a_later_one_takes_its_place_but_a_wrong_one_does_not(self):
        self.assertEqual(text(said(name_fields(4, LETTER), name_fields(3, [2] * 8))["name"]), "BBBBBBBB")
        self.assertEqual(text(said(name_fields(4, LETTER), name_fields(3, [2] * 7 + [58]))["name"]), "AAAAAAAA")


class Halves(unittest.TestCase):
    def test_where_their_bits_stand(self):
        for odd in (0, 1):
            half = said(half_fields(odd, 2 ** 17 - 2, 65537))["halves"][odd]
            self.assertEqual((half.odd, half.y, half.x, half.heard), (odd, 2 ** 17 - 2, 65537, 0))
            self.assertIsNone(said(half_fields(odd, 1, 1))["halves"][1 - odd])

    def test_other_bits_do_not_matter(self):
        for kind, height in ((9, -1000), (18, -1000), (20, None), (22, None)):
            for odd in (0, 1):
                known = said(half_fields(odd, 3, 4, kind, 0x010) | fields(0, (6, 8, 7), (21, 21, 1)))
                self.assertEqual((known["height"], known["halves"][1 - odd]), (height, None))
                self.assertEqual((known["halves"][odd].y, known["halves"][odd].x), (3, 4))

    def test_heights_lack_m(self):
        # Twelve bits: C1 A1 C2 A2 C4 A4 B1 Q B2 D2 B4 D4.
        for kind in range(9, 19):
            self.assertEqual(said(half_fields(0, 1, 1, kind, 0b000000010000))["height"], -1000)
            self.assertEqual(said(half_fields(0, 1, 1, kind, 0b000001010000))["height"], 25 * 32 - 1000)
            self.assertEqual(said(half_fields(0, 1, 1, kind, 0b000000110000))["height"], 25 * 16 - 1000)
            self.assertEqual(said(half_fields(0, 1, 1, kind, 0b000010000000))["height"], -1200)

    def test_no_height_but_a_half_all_the_same(self):
        known = said(half_fields(0, 5, 6, 11, 0x010), half_fields(1, 7, 8, 11, 0))
        self.assertEqual(known["height"], -1000)
        self.assertEqual((known["halves"][1].y, known["halves"][1].x), (7, 8))

    def test_20_to_22_say_no_height(self):
        for kind in (20, 21, 22):
            self.assertIsNone(said(half_fields(0, 1, 1, kind, 0x010))["height"])

    def test_published_height(self):
        self.assertEqual(hearing((0, from_hex("8D40621D58C382D690C8AC2863A7"))).known[0].height, 38000)


class Speeds(unittest.TestCase):
    def test_published(self):
        aircraft = hearing((0, from_hex("8D485020994409940838175B284F"))).known[0]
        self.assertEqual((aircraft.east, aircraft.north, aircraft.climb), (-8, -159, -832))

    def test_sizes_and_signs(self):
        for low, times in ((1, 1), (2, 4)):
            for sign in (0, 1):
                known = said(speed_fields(low, (sign, 1023), (1 - sign, 2), (sign, 511)))
                factor = -1 if sign else 1
                self.assertEqual(known["east"], factor * 1022 * times)
                self.assertEqual(known["north"], -factor * times)
                self.assertEqual(known["climb"], factor * 510 * 64)

    def test_every_bit_of_a_size(self):
        for bit in range(10):
            known = said(speed_fields(1, (0, 1 << bit), (0, 1 << 9 - bit), (0, 1 << bit % 9)))
            sizes = (1 << bit) - 1, (1 << 9 - bit) - 1, ((1 << bit % 9) - 1) * 64
            self.assertEqual((known["east"], known["north"], known["climb"]), sizes)

    def test_other_bits_do_not_matter(self):
        others = fields(0, (9, 13, 31), (36, 36, 1), (47, 56, 1023))
        for low in (1, 2):
            for sign in (0, 1):
                speeds = speed_fields(low, (sign, 10), (1 - sign, 20), (sign, 30))
                self.assertEqual(said(speeds | others), said(speeds))

    def test_1_is_a_speed_of_0(self):
        known = said(speed_fields(2, (1, 1), (0, 1), (1, 1)))
        self.assertEqual((known["east"], known["north"], known["climb"]), (0, 0, 0))

    def test_neither_where_one_has_all_bits_0(self):
        for east, north in (((0, 0), (0, 5)), ((1, 5), (1, 0)), ((1, 0), (0, 0))):
            known = said(speed_fields(1, (0, 10), (0, 20)), speed_fields(1, east, north, (0, 3)))
            self.assertEqual((known["east"], known["north"], known["climb"]), (9, 19, 128))

    def test_no_climb_where_its_bits_are_0(self):
        known = said(speed_fields(1, (0, 10), (0, 20), (0, 2)), speed_fields(1, (0, 11), (0, 21), (1, 0)))
        self.assertEqual((known["east"], known["north"], known["climb"]), (10, 20, 64))
        self.assertIsNone(said(speed_fields(1, (0, 11), (0, 21), (1, 0)))["climb"])

    def test_only_with_bits_6_to_8_1_or_2(self):
        for low in (0, 3, 4, 5, 6, 7):
            self.assertEqual(said(speed_fields(low, (0, 10), (0, 20), (0, 30))), NOTHING)


if __name__ == "__main__":
    unittest.main()
