"""What the 56 bits of an extended message say."""

from planesheard.bits import bits_between
from planesheard.codes import height_of
from planesheard.places import Half

EXTENDED_LENGTH = 56
NAME_LENGTH = 8

NAME_KINDS = (1, 2, 3, 4)
HEIGHT_KINDS = (9, 10, 11, 12, 13, 14, 15, 16, 17, 18)
HALF_KINDS = (9, 10, 11, 12, 13, 14, 15, 16, 17, 18, 20, 21, 22)
SPEED_KIND = 19

# How much one step of a speed is, by bits 6 to 8; with others nothing is said.
SPEED_STEPS = {1: 1, 2: 4}
CLIMB_STEP = 64


def bits_in(extended, first, last):
    """Bits first to last of an extended message."""
    return bits_between(extended, EXTENDED_LENGTH, first, last)


def kind_of(extended):
    """The kind of an extended message."""
    return bits_in(extended, 1, 5)


def name_in(extended):
    """The name that is said, as eight bytes; None if none is."""
    if kind_of(extended) not in NAME_KINDS:
        return None
    name = []
    for spot in range(NAME_LENGTH):
        first = 9 + 6 * spot
        byte = name_byte(bits_in(extended, first, first + 5))
        if byte is None:
            return None
        name.append(byte)
    return name


def name_byte(sign):
    """The byte that a character of six bits stands for; None if it stands for none."""
    if 1 <= sign <= 26:
        return ord("A") + sign - 1
    if sign == 32 or 48 <= sign <= 57:
        return sign
    return None


def height_in(extended):
    """The height that is said; None if none is."""
    if kind_of(extended) not in HEIGHT_KINDS:
        return None
    # These twelve bits lack M, the seventh of a height's thirteen.
    return height_of(bits_in(extended, 9, 14) << 7 | bits_in(extended, 15, 20))


def half_in(extended, now):
    """The half place that is said, as one heard now; None if none is."""
    if kind_of(extended) not in HALF_KINDS:
        return None
    return Half(bits_in(extended, 22, 22), bits_in(extended, 23, 39), bits_in(extended, 40, 56), now)


def speed_step_in(extended):
    """How much one step of a speed is; None if no speeds and no climb are said."""
    if kind_of(extended) != SPEED_KIND:
        return None
    return SPEED_STEPS.get(bits_in(extended, 6, 8))


def speeds_in(extended):
    """The speeds to the east and to the north that are said, as a pair; None if none are."""
    step = speed_step_in(extended)
    east = bits_in(extended, 15, 24)
    north = bits_in(extended, 26, 35)
    if step is None or east == 0 or north == 0:
        return None
    east_speed = signed((east - 1) * step, bits_in(extended, 14, 14))
    return (east_speed, signed((north - 1) * step, bits_in(extended, 25, 25)))


def climb_in(extended):
    """The climb that is said; None if none is."""
    steps = bits_in(extended, 38, 46)
    if speed_step_in(extended) is None or steps == 0:
        return None
    return signed((steps - 1) * CLIMB_STEP, bits_in(extended, 37, 37))


def signed(size, negative):
    """The size, below 0 if the bit for it is 1."""
    return -size if negative == 1 else size
