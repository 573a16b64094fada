"""The rest of a message and the bit that may be turned."""

import random
import unittest

from planesheard.bits import bits_between, number_of_bytes, rest_of, with_one_bit_turned
from tests.helper import parity


class Bits(unittest.TestCase):
    def test_are_counted_from_1_at_the_highest(self):
        number = number_of_bytes([0x80, 0, 0, 0, 0, 0, 0x03])
        self.assertEqual(bits_between(number, 56, 1, 1), 1)
        self.assertEqual(bits_between(number, 56, 1, 5), 16)
        self.assertEqual(bits_between(number, 56, 2, 54), 0)
        self.assertEqual(bits_between(number, 56, 54, 56), 3)


class Rest(unittest.TestCase):
    def test_small_ones_are_their_own(self):
        self.assertEqual(rest_of(0, 56), 0)
        self.assertEqual(rest_of(0xFFFFFF, 56), 0xFFFFFF)
        self.assertEqual(rest_of(0x1000000, 56), 0xFFF409)
        self.assertEqual(rest_of(0x1FFF409, 112), 0)

    def test_as_on_paper(self):
        draw = random.Random(11)
        for length in (56, 112):
            for turn in range(50):
                data = draw.getrandbits(length - 24)
                behind = draw.getrandbits(24)
                on_paper = parity(f"{data:0{length - 24}b}")
                self.assertEqual(rest_of(data << 24 | behind, length), on_paper ^ behind)

    def test_published_messages_leave_none(self):
        for text in ("8D4840D6202CC371C32CE0576098", "8D40621D58C386435CC412692AD6", "8D485020994409940838175B284F"):
            self.assertEqual(rest_of(int(text, 16), 112), 0)

    def test_each_bit_but_the_first_five_is_found(self):
        for length in (56, 112):
            for power in range(length):
                found = with_one_bit_turned(1 << power, length)
                self.assertEqual(found, 0 if power < length - 5 else None)

    def test_two_bits_are_not_mended(self):
        for length in (56, 112):
            for power in range(1, length):
                self.assertIsNone(with_one_bit_turned(1 << power | 1, length))


if __name__ == "__main__":
    unittest.main()
