"""Long lists of calls, drawn by a fixed seed, against the document's words followed in another way.

Here messages are texts of bits, places are fractions of degrees, and an aircraft is a dict.
"""

import random
import unittest

from planesheard.receiver import answers
from tests.helper import PART, degrees_from_both, degrees_near, fields, half_at, half_fields, message, name_fields
from tests.helper import parity, presence, reply, speed_fields, squitter, told_degrees, turned

UNKNOWN = -2147483648
SIGNS = "#ABCDEFGHIJKLMNOPQRSTUVWXYZ##### ###############0123456789######"
CODE = "C1 A1 C2 A2 C4 A4 M B1 Q B2 D2 B4 D4".split()


def rest(bits):
    return parity(bits[:-24]) ^ int(bits[-24:], 2)


# Which bit, counted from 1, leaves which rest alone.
ALONE = {length: {rest(f"{1 << length - spot:0{length}b}"): spot for spot in range(6, length + 1)}
         for length in (56, 112)}


def number(bits, first, last):
    return int(bits[first - 1:last], 2)


def turned_back(value):
    return value ^ turned_back(value // 2) if value else 0


def height(bits):
    """The height of a text of thirteen bits, or None."""
    named = dict(zip(CODE, bits))
    if "1" not in bits or named["M"] == "1":
        return None
    if named["Q"] == "1":
        return int(bits[:6] + bits[7] + bits[9:], 2) * 25 - 1000
    f = turned_back(int("".join(named[one] for one in "D2 D4 A1 A2 A4 B1 B2 B4".split()), 2))
    c = turned_back(int(named["C1"] + named["C2"] + named["C4"], 2))
    if c in (0, 5, 6):
        return None
    c = 5 if c == 7 else c
    return 500 * f + 100 * (6 - c if f % 2 else c) - 1300


def identity(bits):
    named = dict(zip(CODE, bits)) | {"D1": bits[8]}
    return int("".join(str(sum(size * int(named[f"{letter}{size}"]) for size in (1, 2, 4))) for letter in "ABCD"))


class Model:
    """A receiver as the document's words have it."""

    def __init__(self):
        self.time = 0
        self.known = []

    def message(self, n, t, row):
        if n not in (7, 14):
            return -1
        if t < self.time or t >= 2 ** 31:
            return -4
        self.time = t
        self.known = [one for one in self.known if t - one["heard"] <= 300000]
        bits = "".join(f"{byte:08b}" for byte in row)
        layout = number(bits, 1, 5)
        if layout not in ((4, 5, 11) if n == 7 else (17, 18, 20, 21)):
            return -1
        if layout in (4, 5, 20, 21):
            return self.reply(layout, bits)
        mended = 0
        if rest(bits):
            spot = ALONE[len(bits)].get(rest(bits))
            if spot is None:
                return -2
            mended = 1
            bits = bits[:spot - 1] + "10"[int(bits[spot - 1])] + bits[spot:]
        if layout != 18 or bits[5:8] == "000":
            one = self.hear(number(bits, 9, 32))
            if layout != 11:
                self.extended(one, bits[32:88])
        return mended

    def reply(self, layout, bits):
        if rest(bits) not in [one["address"] for one in self.known]:
            return -3
        one = self.hear(rest(bits))
        if layout in (5, 21):
            one["identity"] = identity(bits[19:32])
        elif height(bits[19:32]) is not None:
            one["height"] = height(bits[19:32])
        return 0

    def hear(self, address):
        found = [one for one in self.known if one["address"] == address] or [{"address": address, "halves": {}}]
        self.known = (found + [one for one in self.known if one["address"] != address])[:256]
        found[0]["heard"] = self.time
        return found[0]

    def extended(self, one, bits):
        kind = number(bits, 1, 5)
        if kind in (1, 2, 3, 4):
            text = "".join(SIGNS[int(bits[spot:spot + 6], 2)] for spot in range(8, 56, 6))
            if "#" not in text:
                one["name"] = text
        if 9 <= kind <= 18 and height(bits[8:14] + "0" + bits[14:20]) is not None:
            one["height"] = height(bits[8:14] + "0" + bits[14:20])
        if 9 <= kind <= 18 or 20 <= kind <= 22:
            self.half(one, int(bits[21]), (number(bits, 23, 39), number(bits, 40, 56)))
        if kind == 19 and bits[5:8] in ("001", "010"):
            self.speeds(one, bits)

    def speeds(self, one, bits):
        sizes = [number(bits, 15, 24) - 1, number(bits, 26, 35) - 1, number(bits, 38, 46) - 1]
        times = 4 if bits[5:8] == "010" else 1
        if min(sizes[:2]) >= 0:
            one["east"] = sizes[0] * times * (-1 if bits[13] == "1" else 1)
            one["north"] = sizes[1] * times * (-1 if bits[24] == "1" else 1)
        if sizes[2] >= 0:
            one["climb"] = sizes[2] * 64 * (-1 if bits[36] == "1" else 1)

    def half(self, one, odd, half):
        one["halves"][odd] = (half, self.time)
        other, heard = one["halves"].get(1 - odd, (None, 0))
        place = None
        if other is not None and self.time - heard <= 10000:
            place = degrees_from_both(*((other, half) if odd else (half, other)), odd)
        if place is None and "place" in one and self.time - one["placed"] <= 60000:
            place = degrees_near(one["place"], half, odd)
        if place is not None:
            one["place"] = told_degrees(place)
            one["placed"] = self.time

    def find(self, address):
        return [one["address"] for one in self.known].index(address) if self.is_known(address) else -1

    def is_known(self, address):
        return any(one["address"] == address for one in self.known)

    def at(self, i):
        if i >= len(self.known):
            return [-1]
        one = self.known[i]
        place = one.get("place", (UNKNOWN, UNKNOWN))
        rest_of_it = [one.get(key, UNKNOWN) for key in ("east", "north", "climb", "identity")]
        return [0, one["address"], one.get("height", UNKNOWN), *place, *rest_of_it, self.time - one["heard"]]

    def name(self, i):
        if i >= len(self.known):
            return [-1]
        return [0, *self.known[i]["name"].encode()] if "name" in self.known[i] else [-2]


def model_answers(calls):
    """What the model answers to calls, each a list of its own."""
    given = []
    for call in calls:
        if call[0] == 0:
            model = Model()
            answer = [0]
        elif call[0] == 1:
            answer = [model.message(call[1], call[2], call[4:])]
        elif call[0] == 2:
            answer = [len(model.known)]
        elif call[0] == 3:
            answer = [model.find(call[1])]
        else:
            answer = model.at(call[1]) if call[0] == 4 else model.name(call[1])
        given += [len(answer), *answer]
    return given


class Draw:
    """Draws lists of calls: some aircraft that fly about, and much that goes wrong."""

    def __init__(self, seed, aircraft, step):
        self.draw = random.Random(seed)
        self.step = step
        self.time = 0
        self.addresses = [self.draw.choice((0, 0xFFFFFF, self.draw.getrandbits(24))) for turn in range(aircraft)]
        self.spots = {one: [self.draw.uniform(-90, 90), self.draw.uniform(-180, 180)] for one in self.addresses}

    def sent_half(self, address):
        """A half from where an aircraft is, a little off, or any."""
        draw = self.draw
        odd = draw.getrandbits(1)
        spot = self.spots[address]
        spot[0] = max(-90, min(90, spot[0] + draw.choice((0, 0.01, -0.5, 2.9, -3))))
        spot[1] = (spot[1] + draw.choice((0, 0.01, -0.5, 2.9, -3)) + 180) % 360 - 180
        y, x = half_at(spot[0], spot[1], odd)
        if draw.random() < 0.2:
            y, x = (y + draw.choice((0, PART // 2 - 1, PART // 2))) % PART, (x + draw.choice((0, PART // 2))) % PART
        if draw.random() < 0.1:
            y, x = draw.randrange(PART), draw.randrange(PART)
        return half_fields(odd, y, x, draw.choice((9, 11, 18, 20, 22)), draw.getrandbits(12))

    def sent_extended(self, address):
        draw = self.draw
        choice = draw.randrange(10)
        if choice < 6:
            return self.sent_half(address)
        if choice == 6:
            signs = [draw.choice((1, 26, 32, 48, 57)) for spot in range(8)]
            if draw.random() < 0.3:
                signs[draw.randrange(8)] = draw.randrange(64)
            return name_fields(draw.randrange(1, 5), signs)
        if choice < 9:
            pieces = [(draw.getrandbits(1), draw.choice((0, 1, 2, draw.getrandbits(9)))) for piece in range(3)]
            return speed_fields(draw.choice((1, 2, 1, 2, 0, 3)), *pieces)
        return fields(draw.randrange(32)) | draw.getrandbits(51)

    def sent(self):
        """The bytes of a message."""
        draw = self.draw
        address = draw.choice(self.addresses)
        choice = draw.randrange(20)
        if choice == 0:
            return [draw.getrandbits(8) for byte in range(draw.choice((7, 14)))]
        if choice == 1:
            return presence(address, draw.getrandbits(3))
        if choice < 6:
            return reply(draw.choice((4, 5, 20, 21)), address ^ draw.choice((0, 0, 0, 1)), draw.getrandbits(13))
        layout = draw.choice((17, 17, 18))
        low = draw.choice((0, 0, 0, draw.getrandbits(3)))
        return squitter(address, self.sent_extended(address), layout, low)

    def call(self):
        draw = self.draw
        choice = draw.randrange(20)
        if choice < 13:
            row = self.sent()
            for turn in range(draw.choice((0, 0, 0, 0, 0, 1, 2))):
                row = turned(row, draw.randrange(1, 8 * len(row) + 1))
            return message(self.next_time(), row)
        if choice == 13 and draw.random() < 0.3:
            return message(self.time + draw.randrange(5), [], draw.choice((0, 6, 8, 13, 15, 4294967295)))
        if choice == 13 and draw.random() < 0.02:
            return [0]
        if choice < 16:
            return [3, draw.choice((*self.addresses, 1, 2 ** 24, 4294967295))]
        i = draw.choice((0, 0, 1, draw.randrange(len(self.addresses) + 1), 256, 4294967295))
        return [2] if choice == 16 else [4 if choice < 19 else 5, i]

    def next_time(self):
        """The time of the next message; now and then one that is refused."""
        choice = self.draw.randrange(60)
        if choice == 0:
            return max(0, self.time - 1)
        if choice == 1:
            return self.draw.choice((2 ** 31, 4294967295))
        if choice == 2:
            self.time += self.draw.choice((9999, 10000, 10001, 59999, 60000, 60001, 300000, 300001))
        elif choice > 20:
            self.time += self.draw.randrange(self.step)
        return self.time

    def calls(self, size):
        return [[0]] + [self.call() for turn in range(size - 1)]


def ways_answered(calls, given):
    """Which calls were answered with which first number; of ms_at also which of the nine were known and not."""
    seen = set()
    spot = 0
    for call in calls:
        answer = given[spot + 1:spot + 1 + given[spot]]
        seen.add((call[0], answer[0]))
        if call[0] == 4 and answer[0] == 0:
            seen.update((4, place, told == UNKNOWN) for place, told in enumerate(answer))
        spot += 1 + given[spot]
    return seen


class Whole(unittest.TestCase):
    def check(self, calls):
        given = answers([number for call in calls for number in call])
        self.assertEqual(given, model_answers(calls))
        return given

    def test_few_aircraft(self):
        seen = set()
        for seed in range(30):
            calls = Draw(seed, 1 + seed % 4, (500, 3000, 12000)[seed % 3]).calls(600)
            seen |= ways_answered(calls, self.check(calls))
        # Else the draws would show less than they seem to.
        wanted = {(1, answer) for answer in range(-4, 2)} | {(3, -1), (3, 0), (3, 1)}
        wanted |= {(4, -1), (4, 0), (5, -2), (5, -1), (5, 0)}
        wanted |= {(4, place, unknown) for place in range(2, 9) for unknown in (True, False)}
        self.assertEqual(wanted - seen, set())

    def test_many_aircraft(self):
        for seed in range(3):
            self.check(Draw(100 + seed, 290, 100).calls(600))

    def test_more_than_are_kept(self):
        draw = random.Random(7)
        calls = [[0]] + [message(address, presence(address)) for address in range(250)]
        for t in range(250, 530):
            address = draw.randrange(300)
            calls.append(message(t, draw.choice((presence(address), reply(5, address, draw.getrandbits(13))))))
        calls += [[3, draw.randrange(300)] for turn in range(30)] + [[4, draw.randrange(257)] for turn in range(36)]
        calls += [[4, 255], [4, 256], [2]]
        self.assertEqual(len(calls), 600)
        self.assertEqual(self.check(calls)[-4:], [1, -1, 1, 256])


if __name__ == "__main__":
    unittest.main()
