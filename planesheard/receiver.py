"""A receiver: the messages it takes, who is known to it, and what it tells of them."""

from planesheard.aircraft import Aircraft
from planesheard.bits import bits_between, number_of_bytes, rest_of, with_one_bit_turned
from planesheard.codes import height_of, identity_of

# The numbers of the calls.
NEW = 0
MESSAGE = 1
COUNT = 2
FIND = 3
AT = 4
NAME = 5
CALLS_WITH_ONE_NUMBER = (3, 4, 5)

# What a call for one aircraft is answered with.
TOLD = 0
NOBODY = -1
NO_NAME = -2

# What a message is answered with.
TAKEN = 0
TAKEN_WITH_A_BIT_TURNED = 1
NOT_READ = -1
NOT_RIGHT = -2
NOT_KNOWN = -3
WRONG_TIME = -4

# 2 to the 31st: from here on times are refused.
TIMES_END = 2147483648
LONGEST_SILENCE = 300000
MOST_AIRCRAFT = 256

LENGTHS = (7, 14)
# The formats that are read, each with how many bytes it has.
FORMATS = {4: 7, 5: 7, 11: 7, 17: 14, 18: 14, 20: 14, 21: 14}
HEIGHT_FORMATS = (4, 20)
IDENTITY_FORMATS = (5, 21)
PRESENCE_FORMAT = 11
OTHERS_EXTENDED_FORMAT = 18


class UnknownCall(ValueError):
    """A call's number that the receiver doesn't answer."""


class Receiver:
    """The time, and the aircraft that are known, the one heard of last first."""

    def __init__(self):
        self.now = 0
        self.known = []

    def begin(self):
        """Sets the time to 0 and forgets everybody."""
        self.now = 0
        self.known = []

    def take_message(self, n, t, row):
        """Takes a message of n bytes that came at t, if it can, and answers how that went."""
        if n not in LENGTHS:
            return NOT_READ
        if t < self.now or t >= TIMES_END:
            return WRONG_TIME
        self.set_time(t)
        message = number_of_bytes(row)
        layout = bits_between(message, 8 * n, 1, 5)
        if FORMATS.get(layout) != n:
            return NOT_READ
        if layout in HEIGHT_FORMATS or layout in IDENTITY_FORMATS:
            return self.take_reply(message, 8 * n, layout)
        return self.take_squitter(message, 8 * n, layout)

    def set_time(self, t):
        """Sets the time and forgets who hasn't been heard of for too long."""
        self.now = t
        self.known = [aircraft for aircraft in self.known if t - aircraft.heard <= LONGEST_SILENCE]

    def take_reply(self, message, length, layout):
        """Takes a message whose rest is its address, if that is known."""
        spot = self.spot_of(rest_of(message, length))
        if spot == NOBODY:
            return NOT_KNOWN
        aircraft = self.known[spot]
        self.hear(aircraft)
        code = bits_between(message, length, 20, 32)
        if layout in HEIGHT_FORMATS:
            aircraft.take_height(height_of(code))
        else:
            aircraft.identity = identity_of(code)
        return TAKEN

    def take_squitter(self, message, length, layout):
        """Takes a message that has its address in it, if it's right or one bit away from that."""
        answer = TAKEN
        if rest_of(message, length) != 0:
            answer = TAKEN_WITH_A_BIT_TURNED
            message = with_one_bit_turned(message, length)
            if message is None:
                return NOT_RIGHT
        # Such a message may be about somebody else, under an address that isn't the sender's.
        if layout == OTHERS_EXTENDED_FORMAT and bits_between(message, length, 6, 8) != 0:
            return answer
        aircraft = self.known_or_new(bits_between(message, length, 9, 32))
        self.hear(aircraft)
        if layout != PRESENCE_FORMAT:
            aircraft.take_extended(bits_between(message, length, 33, 88), self.now)
        return answer

    def spot_of(self, address):
        """Which of the known has this address, from 0 on; NOBODY if none has."""
        for spot, aircraft in enumerate(self.known):
            if aircraft.address == address:
                return spot
        return NOBODY

    def known_or_new(self, address):
        """The aircraft with this address, a new one if it isn't known."""
        spot = self.spot_of(address)
        return Aircraft(address) if spot == NOBODY else self.known[spot]

    def hear(self, aircraft):
        """Puts an aircraft first, as heard of now; if they are too many, the last is forgotten."""
        aircraft.heard = self.now
        others = [other for other in self.known if other.address != aircraft.address]
        self.known = [aircraft] + others[:MOST_AIRCRAFT - 1]

    def how_many(self):
        """How many aircraft are known."""
        return len(self.known)

    def tell_numbers(self, i):
        """The answer with the nine numbers of the i-th of the known."""
        if i >= len(self.known):
            return [NOBODY]
        return [TOLD] + self.known[i].numbers_at(self.now)

    def tell_name(self, i):
        """The answer with the name of the i-th of the known."""
        if i >= len(self.known):
            return [NOBODY]
        name = self.known[i].name
        return [NO_NAME] if name is None else [TOLD] + name


def size_of_call(calls, spot):
    """How many numbers the call that begins at this spot has."""
    if calls[spot] == MESSAGE:
        return 4 + calls[spot + 3]
    return 2 if calls[spot] in CALLS_WITH_ONE_NUMBER else 1


def answer_of(receiver, call):
    """The numbers that a call is answered with."""
    number = call[0]
    if number == NEW:
        receiver.begin()
        return [0]
    if number == MESSAGE:
        return [receiver.take_message(call[1], call[2], call[4:])]
    if number == COUNT:
        return [receiver.how_many()]
    if number == FIND:
        return [receiver.spot_of(call[1])]
    if number == AT:
        return receiver.tell_numbers(call[1])
    if number == NAME:
        return receiver.tell_name(call[1])
    raise UnknownCall(f"no call has the number {number}")


def answers(calls):
    """The answers to the calls of one list: of each how many numbers they are, then these."""
    receiver = Receiver()
    given = []
    spot = 0
    while spot < len(calls):
        size = size_of_call(calls, spot)
        answer = answer_of(receiver, calls[spot:spot + size])
        given.append(len(answer))
        given.extend(answer)
        spot += size
    return given
