"""Heights and identities."""

import unittest

from planesheard.codes import height_of, identity_of, turned_back

NAMES = "C1 A1 C2 A2 C4 A4 M B1 Q B2 D2 B4 D4".split()


def code(*names):
    """Thirteen bits with those that are named 1; D1 stands where Q does."""
    wanted = ["Q" if name == "D1" else name for name in names]
    assert set(wanted) <= set(NAMES)
    return int("".join("1" if name in wanted else "0" for name in NAMES), 2)


def gray(number):
    return number ^ number >> 1


def code_of(f, c):
    """The thirteen bits, without Q, that turned back give f and c."""
    names = "D2 D4 A1 A2 A4 B1 B2 B4".split()
    bits = [name for spot, name in enumerate(names) if gray(f) >> (7 - spot) & 1]
    bits += [name for spot, name in enumerate(("C1", "C2", "C4")) if gray(c) >> (2 - spot) & 1]
    return code(*bits)


class Heights(unittest.TestCase):
    def test_none_where_all_are_0(self):
        self.assertIsNone(height_of(0))

    def test_none_where_m_is_1(self):
        for names in (("M",), ("M", "Q"), ("M", "C4"), tuple(NAMES)):
            self.assertIsNone(height_of(code(*names)))

    def test_with_q_the_eleven_others_by_25(self):
        self.assertEqual(height_of(code("Q")), -1000)
        others = [name for name in NAMES if name not in ("M", "Q")]
        for spot, name in enumerate(reversed(others)):
            self.assertEqual(height_of(code("Q", name)), 25 * 2 ** spot - 1000)
        self.assertEqual(height_of(code("Q", *others)), 25 * 2047 - 1000)

    def test_published_heights(self):
        # -1200, -1000, 0 and 126,700 feet as the height tables of transponders have them.
        self.assertEqual(height_of(code("C4")), -1200)
        self.assertEqual(height_of(code("C2")), -1000)
        self.assertEqual(height_of(code("B2", "B4", "C2")), 0)
        self.assertEqual(height_of(code("D2", "C4")), 126700)

    def test_every_c_with_f_even_and_odd(self):
        even = {1: 100, 2: 200, 3: 300, 4: 400, 7: 500}
        odd = {1: 500, 2: 400, 3: 300, 4: 200, 7: 100}
        for f in range(256):
            for c in range(8):
                hundreds = (even, odd)[f % 2].get(c)
                wanted = None if hundreds is None else 500 * f + hundreds - 1300
                self.assertEqual(height_of(code_of(f, c)), wanted, (f, c))

    def test_every_hundred_feet_once(self):
        heights = [height_of(bits) for bits in range(2 ** 13) if not bits & code("M", "Q")]
        self.assertEqual(sorted(height for height in heights if height is not None),
                         list(range(-1200, 126701, 100)))

    def test_turned_back(self):
        for number in range(256):
            self.assertEqual(turned_back(gray(number)), number)


class Identities(unittest.TestCase):
    def test_each_bit(self):
        for spot, letter in enumerate("DCBA"):
            for bit in (1, 2, 4):
                self.assertEqual(identity_of(code(f"{letter}{bit}")), bit * 10 ** spot)

    def test_some(self):
        self.assertEqual(identity_of(0), 0)
        self.assertEqual(identity_of(2 ** 13 - 1), 7777)
        self.assertEqual(identity_of(code("A4", "A2", "A1", "B4", "B1", "D1")), 7501)

    def test_the_seventh_bit_does_not_matter(self):
        self.assertEqual(identity_of(code("M")), 0)
        self.assertEqual(identity_of(code("M", "A1", "B2", "C1", "C2", "D4")), 1234)


if __name__ == "__main__":
    unittest.main()
