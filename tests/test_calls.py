"""The interface, ms_new and ms_count (promises 1 and 3)."""

import unittest

from planesheard.receiver import UnknownCall, answers
from tests.helper import asked, count, message, new, presence, reply, squitter


class Interface(unittest.TestCase):
    def test_each_answer_has_its_count_before_it(self):
        calls = new() + message(5, presence(0x4840D6)) + count() + message(5, [], 3) + count()
        self.assertEqual(answers(calls), [1, 0, 1, 0, 1, 1, 1, -1, 1, 1])

    def test_the_list_handed_in_is_not_changed(self):
        calls = new() + message(9, squitter(77, 1 << 40)) + count() + new() + message(0, reply(4, 77)) + count()
        before = list(calls)
        answers(calls)
        self.assertEqual(calls, before)

    def test_nothing_is_kept_from_one_time_to_the_next(self):
        calls = new() + message(9, presence(77)) + count()
        self.assertEqual(answers(calls), answers(calls))
        self.assertEqual(answers(new() + message(8, reply(4, 77)) + count()), [1, 0, 1, -3, 1, 0])

    def test_a_list_of_600_calls(self):
        calls = [new()] + [message(t, squitter(1 + t % 300)) for t in range(598)] + [count()]
        self.assertEqual(len(calls), 600)
        self.assertEqual(asked(*calls), [0] * 599 + [256])

    def test_whole_numbers_are_given_back(self):
        given = answers(new() + message(0, presence(1)) + message(0, presence(1)[:6] + [0]) + count())
        self.assertIs(type(given), list)
        self.assertEqual({type(number) for number in given}, {int})

    def test_the_row_of_a_message_is_read_over(self):
        # The bytes look like calls; only their count tells where the next call begins.
        row = [0, 2, 2, 0, 1, 2, 0]
        self.assertEqual(asked(new(), message(0, row), count()), [0, -1, 0])

    def test_a_number_of_no_call_is_not_passed_over(self):
        with self.assertRaises(UnknownCall):
            answers(new() + [6] + count())


class New(unittest.TestCase):
    def test_answers_0_and_nobody_is_known(self):
        self.assertEqual(asked(new(), count()), [0, 0])

    def test_the_time_is_0(self):
        self.assertEqual(asked(new(), message(0, presence(1))), [0, 0])

    def test_begins_anew_each_time(self):
        calls = (new(), message(1000, presence(1)), count(), message(999, presence(2)),
                 new(), count(), message(999, reply(4, 1)), message(999, presence(2)), count())
        self.assertEqual(asked(*calls), [0, 0, 1, -4, 0, 0, -3, 0, 1])


class Count(unittest.TestCase):
    def test_each_address_counts_once(self):
        calls = (new(), count(), message(0, presence(1)), count(), message(0, squitter(2)), count(),
                 message(0, squitter(1)), count(), message(0, presence(3)), count())
        self.assertEqual(asked(*calls)[1::2], [0, 1, 2, 2, 3])

    def test_256_and_one_more(self):
        calls = [new()] + [message(0, presence(address)) for address in range(256)] + [count()]
        self.assertEqual(asked(*calls)[-1], 256)
        calls += [message(0, presence(256)), count()]
        self.assertEqual(asked(*calls)[-1], 256)

    def test_255(self):
        calls = [new()] + [message(0, presence(address)) for address in range(255)] + [count()]
        self.assertEqual(asked(*calls)[-1], 255)


if __name__ == "__main__":
    unittest.main()
