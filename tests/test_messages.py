"""ms_message: its answers and their order, the time, who is known (promise 2)."""

import unittest

from planesheard.receiver import Receiver
from tests.helper import addresses, asked, count, hearing, message, new, presence, reply, squitter, turned

LONG = (17, 18, 20, 21)
SHORT = (4, 5, 11)


class Lengths(unittest.TestCase):
    def test_only_7_and_14(self):
        for n in (0, 1, 6, 8, 13, 15, 56, 112, 2 ** 31, 4294967295):
            self.assertEqual(asked(new(), message(0, [], n)), [0, -1])

    def test_ahead_of_the_time(self):
        calls = (new(), message(50, presence(1)), message(10, [], 0), message(10, [], 4294967295),
                 message(2 ** 31, [], 8), message(10, [], 13))
        self.assertEqual(asked(*calls), [0, 0, -1, -1, -1, -1])

    def test_nothing_is_done_not_even_to_the_time(self):
        calls = (new(), message(50, presence(1)), message(400000, [], 0), message(51, presence(2)), count())
        self.assertEqual(asked(*calls), [0, 0, -1, 0, 2])


class Times(unittest.TestCase):
    def test_less_than_the_time(self):
        calls = (new(), message(50, presence(1)), message(49, presence(2)), message(50, presence(3)), count())
        self.assertEqual(asked(*calls), [0, 0, -4, 0, 2])

    def test_the_last_time_and_the_first_beyond(self):
        row = presence(1)
        self.assertEqual(asked(new(), message(2 ** 31 - 1, row), count()), [0, 0, 1])
        self.assertEqual(asked(new(), message(2 ** 31, row), count()), [0, -4, 0])
        self.assertEqual(asked(new(), message(4294967295, row), count()), [0, -4, 0])

    def test_a_refused_time_is_not_set_and_nobody_is_forgotten(self):
        calls = (new(), message(50, presence(1)), message(2 ** 31, presence(2)), count(), message(50, reply(4, 1)),
                 message(0, presence(2)), message(50, reply(4, 2)), count())
        self.assertEqual(asked(*calls), [0, 0, -4, 1, 0, -4, -3, 1])

    def test_ahead_of_format_and_rest(self):
        calls = (new(), message(50, presence(1)), message(49, [0] * 7), message(49, turned(presence(1), 20, 30)),
                 message(49, reply(4, 9)), message(2 ** 31, [0] * 14))
        self.assertEqual(asked(*calls), [0, 0, -4, -4, -4, -4])

    def test_is_set_by_refused_messages_too(self):
        refused = {-1: [0] * 7, -2: turned(presence(1), 20, 30), -3: reply(4, 9)}
        for answer, row in refused.items():
            calls = (new(), message(70, row), message(69, presence(1)), message(70, presence(1)))
            self.assertEqual(asked(*calls), [0, answer, -4, 0])
            calls = (new(), message(5, presence(1)), message(300005, row), count(), message(300006, row), count())
            self.assertEqual(asked(*calls), [0, 0, answer, 1, answer, 0])


class Formats(unittest.TestCase):
    def test_those_that_are_read_have_one_length(self):
        for layout in range(32):
            for n, read in ((7, SHORT), (14, LONG)):
                row = [layout << 3] + [0x5A] * (n - 1)
                answer = asked(new(), message(0, row))[1]
                if layout not in read:
                    self.assertEqual(answer, -1, (layout, n))
                else:
                    self.assertNotEqual(answer, -1, (layout, n))

    def test_a_right_rest_does_not_help(self):
        receiver = hearing((0, presence(1)))
        self.assertEqual(receiver.take_message(7, 0, squitter(2)[:7]), -1)
        self.assertEqual(receiver.take_message(14, 0, squitter(2, layout=11)), -1)
        self.assertEqual(receiver.take_message(14, 0, squitter(2, layout=19)), -1)
        self.assertEqual(receiver.take_message(14, 0, reply(20, 1)[:1] + [0] * 13), -3)
        self.assertEqual(addresses(receiver), [1])


class Rests(unittest.TestCase):
    def setUp(self):
        self.rows = {11: presence(0xABCDEF), 17: squitter(0xABCDEF, 0x20323456789ABC),
                     18: squitter(0xABCDEF, 0x20323456789ABC, layout=18)}

    def test_right_ones(self):
        for row in self.rows.values():
            receiver = Receiver()
            self.assertEqual(receiver.take_message(len(row), 0, row), 0)
            self.assertEqual(addresses(receiver), [0xABCDEF])

    def test_one_bit_turned_behind_the_first_five(self):
        for row in self.rows.values():
            for place in range(6, 8 * len(row) + 1):
                receiver = Receiver()
                self.assertEqual(receiver.take_message(len(row), 0, turned(row, place)), 1, place)
                self.assertEqual(addresses(receiver), [0xABCDEF], place)

    def test_one_of_the_first_five_turned(self):
        for layout, row in self.rows.items():
            for place in range(1, 6):
                # With its third bit turned, 17 is 21, whose rest is an address that isn't known.
                answer = -3 if (layout, place) == (17, 3) else -1
                self.assertEqual(asked(new(), message(0, turned(row, place)), count()), [0, answer, 0])

    def test_the_first_five_are_not_turned_to_make_it_right(self):
        for layout in (11, 17, 18):
            for place in range(1, 6):
                wrong = layout ^ (32 >> place)
                row = presence(5, layout=wrong) if layout == 11 else squitter(5, layout=wrong)
                self.assertEqual(asked(new(), message(0, turned(row, place)), count()), [0, -2, 0])

    def test_two_turned(self):
        for row in self.rows.values():
            last = 8 * len(row)
            for places in ((6, 7), (9, 32), (8, last), (last - 1, last), (30, 31), (6, last)):
                self.assertEqual(asked(new(), message(0, turned(row, *places)), count()), [0, -2, 0])

    def test_what_is_mended_is_what_is_kept(self):
        extended = (1 << 51) | int("000001" * 8, 2)
        for place in (33, 34, 50, 88):
            receiver = hearing((0, turned(squitter(7, extended), place)))
            self.assertEqual(receiver.known[0].name, [65] * 8)

    def test_a_refused_one_tells_nothing(self):
        receiver = hearing((0, presence(2)), (0, presence(1)))
        self.assertEqual(receiver.take_message(7, 9, turned(presence(2), 10, 40)), -2)
        self.assertEqual(addresses(receiver), [1, 2])
        self.assertEqual(receiver.known[1].heard, 0)


class Replies(unittest.TestCase):
    def test_known_and_unknown(self):
        for layout in (4, 5, 20, 21):
            calls = (new(), message(0, reply(layout, 0x3C6DD0)), message(0, presence(0x3C6DD0)),
                     message(0, reply(layout, 0x3C6DD0)), message(0, reply(layout, 0x3C6DD1)), count())
            self.assertEqual(asked(*calls), [0, -3, 0, 0, -3, 1])

    def test_the_least_and_the_greatest_address(self):
        for address in (0, 0xFFFFFF):
            for layout in (4, 21):
                calls = (new(), message(0, reply(layout, address)), message(0, squitter(address)),
                         message(0, reply(layout, address)))
                self.assertEqual(asked(*calls), [0, -3, 0, 0])

    def test_no_bit_of_them_is_turned(self):
        for layout in (4, 5, 20, 21):
            row = reply(layout, 0x3C6DD0)
            for place in range(6, 8 * len(row) + 1):
                calls = (new(), message(0, presence(0x3C6DD0)), message(0, turned(row, place)))
                self.assertEqual(asked(*calls), [0, 0, -3])

    def test_heights_and_identities(self):
        # Q and one more bit: a height of 25 - 1000 feet, an identity of D1 and D4.
        code = 0b0000000010001
        for layout, height, identity in ((4, -975, None), (20, -975, None), (5, None, 5), (21, None, 5)):
            aircraft = hearing((0, presence(9)), (0, reply(layout, 9, code))).known[0]
            self.assertEqual((aircraft.height, aircraft.identity), (height, identity))

    def test_published_replies(self):
        row = list(bytes.fromhex("2A00516D492B80"))
        self.assertEqual(hearing((0, presence(0x510AF9)), (0, row)).known[0].identity, 356)
        row = list(bytes.fromhex("A02014B400000000000000F9D514"))
        self.assertEqual(hearing((0, presence(0x7582F7)), (0, row)).known[0].height, 32300)
        row = list(bytes.fromhex("2000171806A983"))
        self.assertEqual(hearing((0, presence(0x4CA7E8)), (0, row)).known[0].height, 36000)

    def test_no_height_leaves_the_height(self):
        first = reply(4, 9, 0b0000000010001)
        for code in (0, 0b0000001010001):
            for layout in (4, 20):
                aircraft = hearing((0, presence(9)), (0, first), (0, reply(layout, 9, code))).known[0]
                self.assertEqual(aircraft.height, -975)

    def test_an_identity_of_0_is_one(self):
        aircraft = hearing((0, presence(9)), (0, reply(5, 9, 0b1)), (0, reply(5, 9, 0))).known[0]
        self.assertEqual(aircraft.identity, 0)


class OthersExtended(unittest.TestCase):
    def test_18_tells_nothing_where_bits_6_to_8_are_not_0(self):
        for low in range(1, 8):
            row = squitter(9, layout=18, low=low)
            self.assertEqual(asked(new(), message(0, row), count()), [0, 0, 0])
            self.assertEqual(asked(new(), message(0, turned(row, 60)), count()), [0, 1, 0])
            self.assertEqual(asked(new(), message(0, turned(row, 60, 61)), count()), [0, -2, 0])

    def test_nor_of_one_who_is_known(self):
        name = (1 << 51) | int("000001" * 8, 2)
        receiver = hearing((0, presence(9)), (1, presence(8)), (2, squitter(9, name, layout=18, low=2)))
        self.assertEqual(addresses(receiver), [8, 9])
        self.assertEqual((receiver.known[1].heard, receiver.known[1].name), (0, None))

    def test_bits_6_to_8_count_as_they_are_mended(self):
        self.assertEqual(asked(new(), message(0, turned(squitter(9, layout=18), 8)), count()), [0, 1, 1])
        self.assertEqual(asked(new(), message(0, turned(squitter(9, layout=18, low=1), 8)), count()), [0, 1, 0])

    def test_18_with_0_is_heard_like_17(self):
        name = (1 << 51) | int("000001" * 8, 2)
        for layout in (17, 18):
            self.assertEqual(hearing((0, squitter(9, name, layout=layout))).known[0].name, [65] * 8)

    def test_17_and_11_are_read_whatever_these_bits_are(self):
        for low in range(8):
            receiver = hearing((0, squitter(9, low=low)), (0, presence(8, low=low)))
            self.assertEqual(addresses(receiver), [8, 9])


class Known(unittest.TestCase):
    def test_the_one_heard_of_last_is_first(self):
        receiver = hearing((0, presence(1)), (0, squitter(2)), (0, squitter(3, layout=18)))
        self.assertEqual(addresses(receiver), [3, 2, 1])
        for layout in (4, 5, 20, 21):
            address = addresses(receiver)[-1]
            receiver.take_message(7 if layout < 16 else 14, layout, reply(layout, address))
            self.assertEqual((addresses(receiver)[0], receiver.known[0].heard), (address, layout))

    def test_heard_again_it_keeps_what_is_known(self):
        receiver = hearing((0, presence(1)), (0, reply(5, 1, 1)), (5, presence(2)), (7, squitter(1)))
        self.assertEqual(addresses(receiver), [1, 2])
        self.assertEqual((receiver.known[0].identity, receiver.known[0].heard), (4, 7))
        self.assertEqual((receiver.known[1].identity, receiver.known[1].heard), (None, 5))

    def test_one_more_than_256_and_the_last_is_forgotten(self):
        calls = [(0, presence(address)) for address in range(256)]
        receiver = hearing(*calls)
        self.assertEqual(addresses(receiver), list(range(255, -1, -1)))
        receiver.take_message(7, 0, reply(4, 0))
        receiver.take_message(14, 0, squitter(256))
        self.assertEqual(addresses(receiver), [256, 0] + list(range(255, 1, -1)))
        self.assertEqual(receiver.take_message(7, 0, reply(4, 1)), -3)
        receiver.take_message(7, 0, presence(2))
        self.assertEqual(len(receiver.known), 256)

    def test_forgotten_after_300000(self):
        calls = (new(), message(7, presence(1)), message(8, presence(2)), message(300007, [0] * 7), count(),
                 message(300008, [0] * 7), count(), message(300009, [0] * 7), count())
        self.assertEqual(asked(*calls)[4::2], [2, 1, 0])

    def test_a_message_from_one_who_is_forgotten_by_its_own_time(self):
        self.assertEqual(asked(new(), message(0, presence(1)), message(300000, reply(4, 1)), count()), [0, 0, 0, 1])
        self.assertEqual(asked(new(), message(0, presence(1)), message(300001, reply(4, 1)), count()), [0, 0, -3, 0])

    def test_replies_keep_it_known(self):
        for layout in (4, 5, 20, 21):
            calls = (new(), message(0, presence(1)), message(300000, reply(layout, 1)), message(600000, [0] * 7),
                     count(), message(600001, [0] * 7), count())
            self.assertEqual(asked(*calls), [0, 0, 0, -1, 1, -1, 0])

    def test_who_comes_back_is_as_new(self):
        for t, identity in ((300000, 4), (300001, None)):
            receiver = hearing((0, presence(1)), (0, reply(5, 1, 1)), (t, presence(1)))
            self.assertEqual(receiver.known[0].identity, identity)


if __name__ == "__main__":
    unittest.main()
