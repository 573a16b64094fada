"""The bits of a message, its rest, and the one bit that may be turned."""

# The bits of the polynomial that a message is divided by; its highest power is 24.
DIVISOR = 0x1FFF409
DIVISOR_TOP = 0x1000000
DIVISOR_POWER = 24

# A message with another format would be read otherwise, so these bits are never turned.
FORMAT_BITS = 5


def number_of_bytes(row):
    """The bytes of a row as one number, the first byte the highest."""
    number = 0
    for byte in row:
        number = number << 8 | byte
    return number


def bits_between(number, length, first, last):
    """Bits first to last of a number that is length bits long, the highest bit counted as 1."""
    return number >> (length - last) & ((1 << (last - first + 1)) - 1)


def rest_of(number, length):
    """What is left of length bits, as a polynomial over two elements, divided by DIVISOR."""
    rest = number
    for power in range(length - 1, DIVISOR_POWER - 1, -1):
        if rest >> power & 1 == 1:
            rest = rest ^ (DIVISOR << (power - DIVISOR_POWER))
    return rest


def with_one_bit_turned(number, length):
    """The number with that one bit turned that leaves no rest; None if no bit does."""
    rest = rest_of(number, length)
    # The rest is a sum: turning a bit takes away the rest of that bit alone.
    lone_rest = 1
    for power in range(length - FORMAT_BITS):
        if lone_rest == rest:
            return number ^ (1 << power)
        lone_rest = lone_rest << 1
        if lone_rest & DIVISOR_TOP != 0:
            lone_rest = lone_rest ^ DIVISOR
    return None
