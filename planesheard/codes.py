"""Heights and identities out of thirteen bits.

The bits, counted from 1: C1 A1 C2 A2 C4 A4 M B1 Q B2 D2 B4 D4; in an identity the ninth is D1.
"""

from planesheard.bits import bits_between

CODE_LENGTH = 13
M_SPOT = (7,)
Q_SPOT = (9,)

# All spots but those of M and Q.
PLAIN_SPOTS = (1, 2, 3, 4, 5, 6, 8, 10, 11, 12, 13)
# D2 D4 A1 A2 A4 B1 B2 B4
FIVE_HUNDREDS_SPOTS = (11, 13, 2, 4, 6, 8, 10, 12)
# C1 C2 C4
HUNDREDS_SPOTS = (1, 3, 5)

# Of each digit the bits 4, 2 and 1.
A_SPOTS = (6, 4, 2)
B_SPOTS = (12, 10, 8)
C_SPOTS = (5, 3, 1)
D_SPOTS = (13, 11, 9)


def picked(code, spots):
    """The bits at these spots of a code, as a number, the first the highest."""
    number = 0
    for spot in spots:
        number = number << 1 | bits_between(code, CODE_LENGTH, spot, spot)
    return number


def turned_back(number):
    """number xor number / 2 xor number / 4 and so on."""
    turned = 0
    while number > 0:
        turned = turned ^ number
        number = number >> 1
    return turned


def height_of(code):
    """The height in feet that thirteen bits tell; None if they tell none."""
    if code == 0 or picked(code, M_SPOT) == 1:
        return None
    if picked(code, Q_SPOT) == 1:
        return picked(code, PLAIN_SPOTS) * 25 - 1000
    return height_by_hundreds(code)


def height_by_hundreds(code):
    """The height in feet where Q is 0; None if the hundreds are none."""
    five_hundreds = turned_back(picked(code, FIVE_HUNDREDS_SPOTS))
    hundreds = turned_back(picked(code, HUNDREDS_SPOTS))
    if hundreds in (0, 5, 6):
        return None
    if hundreds == 7:
        hundreds = 5
    if five_hundreds % 2 == 1:
        hundreds = 6 - hundreds
    return 500 * five_hundreds + 100 * hundreds - 1300


def identity_of(code):
    """The identity that thirteen bits tell, its four digits as a number of tens."""
    thousands = 1000 * picked(code, A_SPOTS) + 100 * picked(code, B_SPOTS)
    return thousands + 10 * picked(code, C_SPOTS) + picked(code, D_SPOTS)
