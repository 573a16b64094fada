"""Makes messages and calls for the tests, and tells places by another way than the program."""

from fractions import Fraction
from math import floor

from planesheard.receiver import Receiver, answers

GENERATOR = "1111111111111010000001001"
PART = 2 ** 17


def parity(bits):
    """The 24 bits behind a text of bits that leave no rest, by long division on paper."""
    row = list(bits + "0" * 24)
    for start in range(len(bits)):
        if row[start] == "1":
            for step, sign in enumerate(GENERATOR):
                row[start + step] = "0" if row[start + step] == sign else "1"
    return int("".join(row[-24:]), 2)


def rows_of(bits, mask=0):
    """The bytes of a text of bits, with its parity, turned by a mask, behind it."""
    whole = bits + f"{parity(bits) ^ mask:024b}"
    return [int(whole[spot:spot + 8], 2) for spot in range(0, len(whole), 8)]


def presence(address, low=5, layout=11):
    """A message of seven bytes that leaves no rest, of format 11."""
    return rows_of(f"{layout:05b}{low:03b}{address:024b}")


def squitter(address, extended=0, layout=17, low=0):
    """A message of fourteen bytes that leaves no rest, of format 17 or 18."""
    return rows_of(f"{layout:05b}{low:03b}{address:024b}{extended:056b}")


def reply(layout, address, code=0):
    """A message of format 4, 5, 20 or 21 with its thirteen bits, the bits before them all 1."""
    bits = f"{layout:05b}" + "1" * 14 + f"{code:013b}"
    if layout >= 16:
        bits += "10" * 28
    return rows_of(bits, address)


def turned(row, *places):
    """A copy of a message with bits turned, counted from 1."""
    copy = list(row)
    for place in places:
        copy[(place - 1) // 8] ^= 0x80 >> (place - 1) % 8
    return copy


def from_hex(text):
    return list(bytes.fromhex(text))


def fields(kind, *pieces):
    """56 bits with a kind in front; each piece is (first bit, last bit, value)."""
    number = kind << 51
    for first, last, value in pieces:
        assert 0 <= value < 2 ** (last - first + 1)
        number |= value << (56 - last)
    return number


def name_fields(kind, signs):
    return fields(kind, *[(9 + 6 * i, 14 + 6 * i, sign) for i, sign in enumerate(signs)])


def half_fields(odd, y, x, kind=20, height=0):
    return fields(kind, (9, 20, height), (22, 22, odd), (23, 39, y), (40, 56, x))


def speed_fields(low=1, east=(0, 0), north=(0, 0), climb=(0, 0)):
    """Each of the three is (the bit for a negative one, the bits of its size)."""
    return fields(19, (6, 8, low), (14, 14, east[0]), (15, 24, east[1]), (25, 25, north[0]),
                  (26, 35, north[1]), (37, 37, climb[0]), (38, 46, climb[1]))


def new():
    return [0]


def message(t, row, n=None):
    return [1, len(row) if n is None else n, t, len(row)] + list(row)


def count():
    return [2]


def find(address):
    return [3, address]


def at(i):
    return [4, i]


def name(i):
    return [5, i]


def answered(*calls):
    """The answers, each as a list of its own."""
    given = answers([number for call in calls for number in call])
    apart = []
    while given:
        size = given[0]
        assert 1 <= size <= len(given) - 1
        apart.append(given[1:size + 1])
        given = given[size + 1:]
    assert len(apart) == len(calls)
    return apart


def asked(*calls):
    """The one number of each answer, where each answer has just one."""
    apart = answered(*calls)
    assert [len(one) for one in apart] == [1] * len(calls)
    return [one[0] for one in apart]


def text(row):
    """The bytes of a name as a text."""
    return None if row is None else "".join(map(chr, row))


def hearing(*heard):
    """A receiver that has taken messages, each (t, row); all of them must have been taken."""
    receiver = Receiver()
    for t, row in heard:
        assert receiver.take_message(len(row), t, row) in (0, 1)
    return receiver


def addresses(receiver):
    return [aircraft.address for aircraft in receiver.known]


def told(place):
    """What a place is told as: its two numbers."""
    if place is None:
        return None
    return (place.latitude, place.longitude)


# Places in fractions of degrees, as the document's words say them.

EDGES = [int(word) for word in """
1047047130 1482817437 1818626357 2102939493 2354504487 2582924707 2793898710 2991135686 3177209708 3353993436
3522899598 3685025108 3841241892 3992256684 4138651832 4280914012 4419454951 4554626723 4686733252 4816039128
4942776439 5067150166 5189342469 5309516153 5427817472 5544378444 5659318756 5772747354 5884763776 5995459277
6104917774 6213216659 6320427479 6426616523 6531845310 6636171008 6739646774 6842322022 6944242631 7045451075
7145986473 7245884545 7345177442 7443893416 7542056257 7639684391 7736789461 7833374083 7929428225 8024923213
8119801349 8213956981 8307199445 8399173563 8489166191 8575541621 8653536998 8700000000""".split()]


def zones_at(latitude):
    return 59 - len([edge for edge in EDGES if abs(latitude) >= Fraction(edge, 10 ** 8)])


def nearest(number):
    return floor(number + Fraction(1, 2))


def degrees_from_both(even, odd, last):
    """(latitude, longitude) out of (y0, x0) and (y1, x1); last is 0 (even) or 1 (odd); None: no place."""
    j = nearest(Fraction(59 * even[0] - 60 * odd[0], PART))
    latitudes = [6 * (j % 60 + Fraction(even[0], PART)), Fraction(360, 59) * (j % 59 + Fraction(odd[0], PART))]
    latitudes = [latitude - 360 if latitude >= 270 else latitude for latitude in latitudes]
    if max(abs(latitude) for latitude in latitudes) > 90 or zones_at(latitudes[0]) != zones_at(latitudes[1]):
        return None
    k = zones_at(latitudes[0])
    m = nearest(Fraction(even[1] * (k - 1) - odd[1] * k, PART))
    z = max(1, k - last)
    longitude = Fraction(360, z) * (m % z + Fraction((even, odd)[last][1], PART))
    return (latitudes[last], longitude - 360 if longitude >= 180 else longitude)


def nearest_degrees(known, zones, within):
    known_parts = floor(known * zones * PART / 360)
    choices = [within + PART * zone for zone in range(-zones, zones + 1)]
    distance = min(abs(choice - known_parts) for choice in choices)
    best = max(choice for choice in choices if abs(choice - known_parts) == distance)
    return Fraction(360 * best, zones * PART)


def degrees_near(known, half, odd):
    """(latitude, longitude) of a half (y, x) near a known place, which is as it's told; None: no place."""
    latitude = nearest_degrees(Fraction(known[0], 10 ** 7), 60 - odd, half[0])
    if abs(latitude) > 90:
        return None
    longitude = nearest_degrees(Fraction(known[1], 10 ** 7), max(1, zones_at(latitude) - odd), half[1])
    if longitude < -180:
        longitude += 360
    elif longitude >= 180:
        longitude -= 360
    return (latitude, longitude)


def told_degrees(degrees):
    return None if degrees is None else tuple(floor(angle * 10 ** 7) for angle in degrees)


def half_at(latitude, longitude, odd):
    """The half (y, x) that an aircraft sends from these degrees."""
    height = Fraction(360, 60 - odd)
    y = nearest(PART * (Fraction(latitude) % height) / height)
    sent = height * (Fraction(y, PART) + floor(Fraction(latitude) / height))
    width = Fraction(360, max(1, zones_at(sent) - odd))
    x = nearest(PART * (Fraction(longitude) % width) / width)
    return (y % PART, x % PART)
