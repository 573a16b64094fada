"""ms_find, ms_at and ms_name (promises 3 to 5): what is told of those who are known."""

import unittest

from tests.helper import PART, answered, asked, at, count, degrees_from_both, degrees_near, fields, find, from_hex
from tests.helper import half_at, half_fields, message, name, name_fields, new, presence, reply, speed_fields, squitter
from tests.helper import told_degrees, turned

UNKNOWN = -2147483648
NONE_SUCH = [-1]
MOST = 4294967295

# How the nine numbers of ms_at stand behind the 0.
NINE = ("address", "height", "latitude", "longitude", "east", "north", "climb", "identity", "ago")

KLM = from_hex("8D4840D6202CC371C32CE0576098")
EVEN = from_hex("8D40621D58C382D690C8AC2863A7")
ODD = from_hex("8D40621D58C386435CC412692AD6")
SPEEDS = from_hex("8D485020994409940838175B284F")

# Messages that set the time and are refused behind that.
REFUSED = {-1: [0] * 7, -2: turned(presence(1), 20, 30), -3: reply(4, 0x999999)}


def heard(*messages):
    """The calls that begin a receiver and hand it messages, each (t, row)."""
    return [new()] + [message(t, row) for t, row in messages]


def last_answer(*calls):
    return answered(*calls)[-1]


def told_of(i, *messages):
    """The nine numbers of the i-th, by name, behind messages (t, row)."""
    answer = last_answer(*heard(*messages), at(i))
    assert len(answer) == 10 and answer[0] == 0
    return dict(zip(NINE, answer[1:]))


def place_of(*messages):
    known = told_of(0, *messages)
    return (known["latitude"], known["longitude"])


def half_row(odd, half, address=9):
    return squitter(address, half_fields(odd, half[0], half[1]))


class Find(unittest.TestCase):
    def test_nobody_known(self):
        self.assertEqual(asked(new(), find(0), find(1), find(0xFFFFFF), find(MOST)), [0, -1, -1, -1, -1])

    def test_the_first_one_in_between_and_the_last(self):
        calls = heard((0, presence(5)), (0, squitter(0xFFFFFF)), (0, squitter(7, layout=18)), (0, presence(0)))
        self.assertEqual(asked(*calls, find(0), find(7), find(0xFFFFFF), find(5))[-4:], [0, 1, 2, 3])

    def test_an_address_that_is_not_known(self):
        calls = heard((0, presence(5)), (0, presence(7)))
        self.assertEqual(asked(*calls, find(6), find(0), find(0xFFFFFF))[-3:], [-1, -1, -1])

    def test_an_address_of_more_than_24_bits(self):
        calls = heard((0, presence(0)), (0, presence(5)), (0, presence(0xFFFFFF)))
        beyond = (0x1000000, 0x1000005, 0x1FFFFFF, 2 ** 31, 2 ** 31 + 5, 0xFF000005, MOST)
        self.assertEqual(asked(*calls, *map(find, beyond))[-len(beyond):], [-1] * len(beyond))

    def test_one_that_was_forgotten_by_time(self):
        for answer, row in REFUSED.items():
            calls = heard((5, presence(1)), (6, presence(2)), (300005, row))
            self.assertEqual(asked(*calls, find(1), find(2))[-3:], [answer, 1, 0])
            calls.append(message(300006, row))
            self.assertEqual(asked(*calls, find(1), find(2))[-3:], [answer, -1, 0])

    def test_one_that_was_forgotten_as_one_too_many(self):
        calls = heard(*[(0, presence(address)) for address in range(256)])
        self.assertEqual(asked(*calls, find(0), find(1), find(255), find(256))[-4:], [255, 254, 0, -1])
        calls.append(message(0, presence(256)))
        self.assertEqual(asked(*calls, find(0), find(1), find(255), find(256))[-4:], [-1, 255, 1, 0])

    def test_where_one_stands_once_others_were_heard_of_or_itself_anew(self):
        calls = heard((0, presence(1)))
        wanted = [(presence(2), [1, 0, -1]), (squitter(3), [2, 1, 0]), (presence(1), [0, 2, 1]),
                  (reply(4, 2), [1, 0, 2]), (reply(5, 2), [1, 0, 2]), (reply(20, 3), [2, 1, 0]),
                  (reply(21, 1), [0, 2, 1]), (squitter(2, layout=18), [1, 0, 2])]
        for row, spots in wanted:
            calls.append(message(0, row))
            self.assertEqual(asked(*calls, find(1), find(2), find(3))[-3:], spots)

    def test_what_is_not_taken_or_tells_nothing_moves_nobody(self):
        others = [turned(presence(1), 20, 30), reply(4, 9), [0] * 14, squitter(1, layout=18, low=1),
                  turned(squitter(1, layout=18, low=6), 99)]
        calls = heard((0, presence(1)), (0, presence(2)))
        for row in others:
            self.assertEqual(asked(*calls, message(1, row), find(1), find(2))[-2:], [1, 0])

    def test_a_mended_address_is_the_one_that_is_found(self):
        calls = heard((0, turned(presence(0x123456), 9)), (0, turned(squitter(0x654321), 32)))
        wanted = {0x123456: 1, 0x123456 ^ 1 << 23: -1, 0x654321: 0, 0x654321 ^ 1: -1}
        self.assertEqual(asked(*calls)[1:], [1, 1])
        self.assertEqual(asked(*calls, *map(find, wanted))[3:], list(wanted.values()))

    def test_begun_anew_nobody_is_found(self):
        self.assertEqual(asked(*heard((0, presence(1))), find(1), new(), find(1))[2:], [0, 0, -1])


class At(unittest.TestCase):
    def test_there_is_none(self):
        calls = [new()]
        for known in range(4):
            for i in (known, known + 1, 255, 256, 2 ** 31, 2 ** 32 - known - 1, MOST):
                self.assertEqual(last_answer(*calls, at(i)), NONE_SUCH)
            for i in range(known):
                self.assertEqual(len(last_answer(*calls, at(i))), 10)
            calls.append(message(0, presence(known)))

    def test_of_256(self):
        calls = heard(*[(0, presence(address)) for address in range(256)])
        self.assertEqual(last_answer(*calls, at(255)), [0, 0] + [UNKNOWN] * 7 + [0])
        self.assertEqual(last_answer(*calls, at(256)), NONE_SUCH)
        calls.append(message(0, presence(256)))
        self.assertEqual(last_answer(*calls, at(255))[1], 1)
        self.assertEqual(last_answer(*calls, at(256)), NONE_SUCH)

    def test_nothing_known_but_that_it_is_there(self):
        for address in (0, 1, 0x4840D6, 0xFFFFFF):
            rows = [presence(address), squitter(address), squitter(address, layout=18), turned(presence(address), 9)]
            for row in rows:
                self.assertEqual(last_answer(*heard((3, row)), at(0)), [0, address] + [UNKNOWN] * 7 + [0])

    def test_all_nine(self):
        rows = [(0, ODD), (1000, EVEN), (2000, squitter(0x40621D, speed_fields(1, (1, 9), (1, 160), (1, 14)))),
                (3000, reply(5, 0x40621D, 0b0100000000000)), (7000, presence(1))]
        self.assertEqual(last_answer(*heard(*rows), at(1)),
                         [0, 0x40621D, 38000, 522572021, 39193725, -8, -159, -832, 1000, 4000])
        self.assertEqual(last_answer(*heard(*rows), at(0)), [0, 1] + [UNKNOWN] * 7 + [0])

    def test_each_of_them_alone(self):
        address = 0x485020
        place = place_of((0, ODD), (0, EVEN))
        halves = [(0, squitter(address, int.from_bytes(bytes(row[4:11]), "big") & ~(0b11111 << 51) | 20 << 51))
                  for row in (ODD, EVEN)]
        rows = {("height",): ([(0, reply(4, address, 0b0000000010001))], [-975]),
                ("latitude", "longitude"): (halves, list(place)),
                ("east", "north"): ([(0, squitter(address, speed_fields(1, (0, 5), (1, 7))))], [4, -6]),
                ("climb",): ([(0, squitter(address, speed_fields(1, (0, 0), (0, 0), (1, 3))))], [-128]),
                ("identity",): ([(0, reply(21, address, 0b0100000000000))], [1000])}
        for names, (messages, values) in rows.items():
            wanted = dict.fromkeys(NINE, UNKNOWN) | {"address": address, "ago": 0} | dict(zip(names, values))
            self.assertEqual(told_of(0, (0, presence(address)), *messages), wanted)

    def test_published_speeds(self):
        self.assertEqual(last_answer(*heard((0, SPEEDS)), at(0)),
                         [0, 0x485020, UNKNOWN, UNKNOWN, UNKNOWN, -8, -159, -832, UNKNOWN, 0])

    def test_the_least_and_the_greatest_numbers(self):
        for sign, bit in ((1, 0), (-1, 1)):
            known = told_of(0, (0, squitter(9, speed_fields(2, (bit, 1023), (bit, 1023), (bit, 511)))))
            self.assertEqual((known["east"], known["north"], known["climb"]), (sign * 4088, sign * 4088, sign * 32640))
        for code, height in ((0b0000100000000, -1200), (0b0000000010000, -1000), (0b0000100000100, 126700),
                             (0b1111110111111, 50175)):
            self.assertEqual(told_of(0, (0, presence(9)), (0, reply(20, 9, code)))["height"], height)
        for code, identity in ((0, 0), (0b1111111111111, 7777), (0b0000001000000, 0)):
            self.assertEqual(told_of(0, (0, presence(9)), (0, reply(5, 9, code)))["identity"], identity)

    def test_a_number_of_0_is_known(self):
        speeds = squitter(9, speed_fields(1, (1, 1), (1, 1), (1, 1)))
        halves = [(0, half_row(odd, (0, 0))) for odd in (0, 1)]
        # A4, Q and B2: 40 times 25, less 1000 feet.
        height = reply(4, 9, 0b0000010011000)
        known = told_of(0, (0, speeds), *halves, (0, reply(5, 9, 0)), (0, height))
        self.assertEqual(known, dict.fromkeys(NINE, 0) | {"address": 9})

    def test_no_height_no_speeds_no_climb_leave_what_was_known(self):
        rows = [(0, squitter(9, speed_fields(1, (0, 5), (1, 7), (0, 3)))), (0, reply(4, 9, 0b0000000010001))]
        before = told_of(0, *rows)
        self.assertEqual((before["height"], before["east"], before["north"], before["climb"]), (-975, 4, -6, 128))
        for row in (reply(4, 9, 0), reply(20, 9, 0b0000001010001), squitter(9, speed_fields(1, (0, 0), (0, 9))),
                    squitter(9, speed_fields(2, (0, 9), (1, 0))), squitter(9, speed_fields(3, (0, 9), (0, 9), (0, 9))),
                    squitter(9, fields(31)), squitter(9, name_fields(1, [0] * 8)), presence(9),
                    squitter(9, speed_fields(2, (0, 9), (1, 9), (0, 9)), layout=18, low=1)):
            self.assertEqual(told_of(0, *rows, (0, row)), before)
        after = told_of(0, *rows, (0, squitter(9, speed_fields(2, (0, 3), (0, 2), (1, 0)))))
        self.assertEqual(after, before | {"east": 8, "north": 4})

    def test_who_was_forgotten_is_as_new(self):
        for t, identity in ((300000, 4), (300001, UNKNOWN)):
            self.assertEqual(told_of(0, (0, presence(1)), (0, reply(5, 1, 1)), (t, presence(1)))["identity"], identity)


class Ago(unittest.TestCase):
    def test_by_the_time_of_the_last_message(self):
        rows = [(10, presence(1)), (25, presence(2)), (300010, presence(3))]
        self.assertEqual([told_of(i, *rows)["ago"] for i in range(3)], [0, 299985, 300000])

    def test_the_time_is_set_by_messages_that_are_not_taken_too(self):
        for answer, row in REFUSED.items():
            calls = heard((10, presence(1)), (300010, row))
            self.assertEqual(asked(*calls)[-1], answer)
            self.assertEqual(last_answer(*calls, at(0))[-1], 300000)

    def test_the_time_is_not_set_where_nothing_is_done(self):
        calls = heard((10, presence(1)), (20, presence(2)))
        for refused in (message(19, presence(1)), message(2 ** 31, presence(1)), message(30, [], 8)):
            self.assertEqual(last_answer(*calls, refused, at(1))[-1], 10)
            self.assertEqual(last_answer(*calls, refused, at(0))[1:], [2] + [UNKNOWN] * 7 + [0])

    def test_every_message_that_is_taken_counts(self):
        for row in (presence(1), squitter(1), squitter(1, fields(31), layout=18), reply(4, 1), reply(5, 1),
                    reply(20, 1), reply(21, 1), turned(presence(1), 40)):
            self.assertEqual(told_of(0, (10, presence(1)), (30, row), (70, REFUSED[-1]))["ago"], 40)

    def test_18_that_tells_nothing_does_not(self):
        self.assertEqual(told_of(0, (10, presence(1)), (30, squitter(1, layout=18, low=1)))["ago"], 20)

    def test_at_the_last_time(self):
        self.assertEqual(told_of(0, (2 ** 31 - 300001, presence(1)), (2 ** 31 - 1, REFUSED[-1]))["ago"], 300000)


class Places(unittest.TestCase):
    even = half_at("-33.9", "-70.7", 0)
    odd = half_at("-33.9", "-70.7", 1)

    def test_out_of_two_halves_in_both_orders(self):
        self.assertEqual(place_of((0, ODD), (0, EVEN)), (522572021, 39193725))
        self.assertEqual(place_of((0, EVEN), (0, ODD)), (522657801, 39389125))

    def test_numbers_below_0_in_both_orders(self):
        rows = (0, half_row(0, self.even)), (10000, half_row(1, self.odd))
        wanted = [told_degrees(degrees_from_both(self.even, self.odd, last)) for last in (0, 1)]
        self.assertEqual(place_of(*rows), wanted[1])
        self.assertEqual(place_of((0, rows[1][1]), (10000, rows[0][1])), wanted[0])
        for latitude, longitude in wanted:
            self.assertLess(abs(latitude + 339000000), 600)
            self.assertLess(abs(longitude + 707000000), 900)

    def test_a_half_that_is_too_old(self):
        rows = (0, half_row(0, self.even)), (10001, half_row(1, self.odd))
        self.assertEqual(place_of(*rows), (UNKNOWN, UNKNOWN))

    def test_near_a_known_place(self):
        pair = (0, half_row(0, self.even)), (0, half_row(1, self.odd))
        known = place_of(*pair)
        for t, odd in ((10001, 0), (60000, 0), (60000, 1)):
            half = half_at("-34.9", "-71.7", odd)
            after = place_of(*pair, (t, half_row(odd, half)))
            self.assertEqual(after, told_degrees(degrees_near(known, half, odd)))
            self.assertLess(abs(after[0] + 349000000), 600)
            self.assertLess(abs(after[1] + 717000000), 900)

    def test_one_that_stays_as_it_was(self):
        pair = (0, half_row(0, self.even)), (0, half_row(1, self.odd))
        known = place_of(*pair)
        later = half_row(0, half_at("-34.9", "-71.7", 0))
        self.assertEqual(place_of(*pair, (60001, later)), known)
        # At a pole a half beyond it fits neither with the other half nor near the known place.
        pole = (0, half_row(0, (0, 7))), (0, half_row(1, (3 * PART // 4, 9)))
        self.assertEqual(place_of(*pole, (5, half_row(0, (1, 100)))), place_of(*pole))

    def test_the_known_place_is_the_one_that_is_told(self):
        # 1141575.99.. parts of 60 zones are 1141575: y 27464 is 65535 below that, or 65537 above.
        third = from_hex("8d40621d58c380d690c8ac2e763b")
        self.assertEqual(place_of((0, ODD), (1000, EVEN), (20000, third)), (492572021, 36178823))

    def test_a_place_near_another_is_known_as_it_is_told_too(self):
        rows = [(0, half_row(1, self.odd)), (0, half_row(0, self.even))]
        known = place_of(*rows)
        for turn in range(1, 12):
            half = ((self.even[0] + turn * PART // 2) % PART, (self.even[1] + turn * (PART // 2 - 1)) % PART)
            rows.append((20000 * turn, half_row(0, half)))
            known = told_degrees(degrees_near(known, half, 0))
            self.assertEqual(place_of(*rows), known)

    def test_of_two_aircraft(self):
        rows = [(0, half_row(0, self.even, 1)), (0, half_row(0, self.odd, 2)), (0, half_row(1, self.odd, 1))]
        self.assertEqual(told_of(0, *rows)["latitude"], told_degrees(degrees_from_both(self.even, self.odd, 1))[0])
        self.assertEqual(told_of(1, *rows)["latitude"], UNKNOWN)


class Name(unittest.TestCase):
    def test_eight_bytes_behind_a_0(self):
        self.assertEqual(last_answer(*heard((0, KLM)), name(0)), [0] + list(b"KLM1023 "))

    def test_every_character(self):
        signs = list(range(1, 27)) + [32] + list(range(48, 58))
        wanted = b"ABCDEFGHIJKLMNOPQRSTUVWXYZ 0123456789"
        for start in range(len(signs)):
            spots = [(start + step) % len(signs) for step in range(8)]
            row = squitter(9, name_fields(1 + start % 4, [signs[spot] for spot in spots]))
            self.assertEqual(last_answer(*heard((0, row)), name(0)), [0] + [wanted[spot] for spot in spots])

    def test_there_is_none(self):
        calls = [new()]
        for known in range(3):
            for i in (known, known + 1, 256, 2 ** 31, MOST):
                self.assertEqual(last_answer(*calls, name(i)), [-1])
            calls.append(message(0, squitter(known, name_fields(1, [1] * 8))))

    def test_it_has_none(self):
        said = [0, half_fields(0, 1, 2), speed_fields(1, (0, 5), (0, 5)), name_fields(5, [1] * 8),
                name_fields(4, [1] * 7 + [0])]
        for row in [presence(9)] + [squitter(9, extended) for extended in said]:
            self.assertEqual(last_answer(*heard((0, row)), name(0)), [-2])
            self.assertEqual(last_answer(*heard((0, row)), name(1)), [-1])

    def test_each_has_its_own(self):
        rows = [squitter(1, name_fields(1, [1] * 8)), presence(2), squitter(3, name_fields(1, [3] * 8))]
        calls = heard(*[(0, row) for row in rows])
        self.assertEqual(answered(*calls, name(0), name(1), name(2), name(3))[-4:],
                         [[0] + [67] * 8, [-2], [0] + [65] * 8, [-1]])

    def test_a_later_one_replaces_it(self):
        calls = heard((0, KLM), (0, squitter(0x4840D6, name_fields(2, [32] * 8))))
        self.assertEqual(last_answer(*calls, name(0)), [0] + [32] * 8)

    def test_one_with_a_character_that_says_nothing_does_not(self):
        for sign in (0, 27, 31, 33, 47, 58, 63):
            for spot in range(8):
                signs = [2] * spot + [sign] + [2] * (7 - spot)
                calls = heard((0, KLM), (0, squitter(0x4840D6, name_fields(4, signs))))
                self.assertEqual(last_answer(*calls, name(0)), [0] + list(b"KLM1023 "))

    def test_it_goes_with_who_is_forgotten(self):
        calls = heard((0, KLM), (300000, presence(0x4840D6)))
        self.assertEqual(last_answer(*calls, name(0)), [0] + list(b"KLM1023 "))
        calls = heard((0, KLM), (300001, presence(0x4840D6)))
        self.assertEqual(last_answer(*calls, name(0)), [-2])


class NothingIsChanged(unittest.TestCase):
    questions = [find(0x40621D), find(0x4840D6), find(5), find(MOST), count()]
    questions += [ask(i) for ask in (at, name) for i in (0, 1, 2, 3, 256, MOST)]
    messages = [(0, ODD), (5, KLM), (1000, EVEN), (2000, SPEEDS), (2500, REFUSED[-2]), (9000, ODD), (9000, EVEN),
                (20000, from_hex("8d40621d58c380d690c8ac2e763b")), (20000, reply(4, 0x4840D6, 0b10001)),
                (302001, REFUSED[-1]), (320001, REFUSED[-3])]

    def test_asked_twice_they_answer_the_same(self):
        for end in range(len(self.messages) + 1):
            given = answered(*heard(*self.messages[:end]), *self.questions, *self.questions)
            size = len(self.questions)
            self.assertEqual(given[-size:], given[-2 * size:-size])

    def test_what_stands_behind_them_answers_as_if_they_had_not_been_asked(self):
        asking = [new()]
        for t, row in self.messages:
            asking += self.questions + [message(t, row)]
        size = len(self.questions) + 1
        with_questions = answered(*asking, *self.questions)
        self.assertEqual(with_questions[0::size], answered(*heard(*self.messages)))
        for end in range(len(self.messages) + 1):
            alone = answered(*heard(*self.messages[:end]), *self.questions)
            self.assertEqual(with_questions[1 + size * end:size * (end + 1)], alone[-len(self.questions):])


if __name__ == "__main__":
    unittest.main()
