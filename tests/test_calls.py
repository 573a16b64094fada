"""The interface with all six calls, ms_new and ms_count (promises 1 and 3)."""

import unittest

from planesheard.receiver import UnknownCall, answers
from tests.helper import asked, answered, at, count, find, half_fields, message, name, name_fields, new, presence
from tests.helper import reply, squitter

UNKNOWN = -2147483648


def six_calls():
    """A list with each of the six calls, and its answers."""
    calls = new() + message(5, squitter(0x4840D6, name_fields(4, [1] * 8))) + count() + find(0x4840D6) + at(0) + name(0)
    given = [1, 0, 1, 0, 1, 1, 1, 0, 10, 0, 0x4840D6] + [UNKNOWN] * 7 + [0, 9, 0] + [65] * 8
    return (calls, given)


def long_calls():
    """600 calls of all six kinds, each a list."""
    calls = [new()]
    for t in range(99):
        half = half_fields(t % 2, 1000 * t % 2 ** 17, 77 * t)
        calls += [message(700 * t, squitter(t % 7, half)), message(700 * t, reply(4 + t % 2, (t + 3) % 11, 17 * t))]
        calls += [count(), find(t % 9), at(t % 8), name(t % 8)]
    return calls + [message(69300, squitter(3, name_fields(1, [1] * 8))), name(0), find(3), at(0), count()]


class Interface(unittest.TestCase):
    def test_all_six_calls(self):
        calls, given = six_calls()
        self.assertEqual(answers(calls), given)
        # Behind one another the lists answer as each does alone: ms_new begins anew.
        self.assertEqual(answers(calls * 3), given * 3)

    def test_a_refusal_is_its_number_alone(self):
        calls = new() + at(0) + name(0) + find(0) + message(0, presence(1)) + name(0) + at(1) + count()
        self.assertEqual(answers(calls), [1, 0, 1, -1, 1, -1, 1, -1, 1, 0, 1, -2, 1, -1, 1, 1])

    def test_numbers_that_look_like_calls_are_read_over(self):
        calls = []
        for number in range(6):
            calls += find(number) + at(number) + name(number)
        self.assertEqual(answers(new() + calls), [1, 0] + [1, -1] * 18)

    def test_600_calls_of_all_six(self):
        calls = long_calls()
        self.assertEqual(len(calls), 600)
        given = answered(*calls)
        self.assertEqual({call[0] for call in calls}, set(range(6)))
        self.assertEqual({len(answer) for answer in given}, {1, 9, 10})
        self.assertEqual(given[-4], [0] + [65] * 8)
        self.assertEqual(given[-3:], [[0], [0, 3] + given[-2][2:], [7]])

    def test_600_calls_are_not_changed_and_answer_the_same_again(self):
        calls = [number for call in long_calls() for number in call]
        before = list(calls)
        given = answers(calls)
        self.assertEqual(calls, before)
        self.assertEqual(answers(calls), given)
        self.assertEqual(calls, before)

    def test_what_is_given_back_is_not_kept(self):
        calls, given = six_calls()
        first = answers(calls)
        first.clear()
        self.assertEqual(answers(calls), given)

    def test_each_answer_has_its_count_before_it(self):
        calls = new() + message(5, presence(0x4840D6)) + count() + message(5, [], 3) + count()
        self.assertEqual(answers(calls), [1, 0, 1, 0, 1, 1, 1, -1, 1, 1])

    def test_the_list_handed_in_is_not_changed(self):
        calls = new() + message(9, squitter(77, 1 << 40)) + count() + new() + message(0, reply(4, 77)) + count()
        before = list(calls)
        answers(calls)
        self.assertEqual(calls, before)

    def test_nothing_is_kept_from_one_time_to_the_next(self):
        calls = new() + message(9, presence(77)) + count()
        self.assertEqual(answers(calls), answers(calls))
        self.assertEqual(answers(new() + message(8, reply(4, 77)) + count()), [1, 0, 1, -3, 1, 0])

    def test_a_list_of_600_calls(self):
        calls = [new()] + [message(t, squitter(1 + t % 300)) for t in range(598)] + [count()]
        self.assertEqual(len(calls), 600)
        self.assertEqual(asked(*calls), [0] * 599 + [256])

    def test_whole_numbers_are_given_back(self):
        for calls in (six_calls()[0], sum(long_calls(), []), new() + message(0, presence(1)[:6] + [0]) + count()):
            given = answers(calls)
            self.assertIs(type(given), list)
            self.assertEqual({type(number) for number in given}, {int})

    def test_the_row_of_a_message_is_read_over(self):
        # The bytes look like calls; only their count tells where the next call begins.
        row = [0, 2, 2, 0, 1, 2, 0]
        self.assertEqual(asked(new(), message(0, row), count()), [0, -1, 0])

    def test_a_number_of_no_call_is_not_passed_over(self):
        with self.assertRaises(UnknownCall):
            answers(new() + [6] + count())


class New(unittest.TestCase):
    def test_answers_0_and_nobody_is_known(self):
        self.assertEqual(asked(new(), count()), [0, 0])

    def test_the_time_is_0(self):
        self.assertEqual(asked(new(), message(0, presence(1))), [0, 0])

    def test_begins_anew_each_time(self):
        calls = (new(), message(1000, presence(1)), count(), message(999, presence(2)),
                 new(), count(), message(999, reply(4, 1)), message(999, presence(2)), count())
        self.assertEqual(asked(*calls), [0, 0, 1, -4, 0, 0, -3, 0, 1])


class Count(unittest.TestCase):
    def test_each_address_counts_once(self):
        calls = (new(), count(), message(0, presence(1)), count(), message(0, squitter(2)), count(),
                 message(0, squitter(1)), count(), message(0, presence(3)), count())
        self.assertEqual(asked(*calls)[1::2], [0, 1, 2, 2, 3])

    def test_256_and_one_more(self):
        calls = [new()] + [message(0, presence(address)) for address in range(256)] + [count()]
        self.assertEqual(asked(*calls)[-1], 256)
        calls += [message(0, presence(256)), count()]
        self.assertEqual(asked(*calls)[-1], 256)

    def test_255(self):
        calls = [new()] + [message(0, presence(address)) for address in range(255)] + [count()]
        self.assertEqual(asked(*calls)[-1], 255)


if __name__ == "__main__":
    unittest.main()
