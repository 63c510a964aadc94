"""The one list of calls, and the one list of answers."""

import unittest

from helper import (LAST_NUMBER, LEAST, begin, between, drop, events, future, heard, joined, kind, move, parted, past,
                    put, square, turn)
from lightevents.events import answers


class Answers(unittest.TestCase):
    def test_each_call_by_its_number(self):
        calls = [0, 1, 0, 0, 1, 4, 0, 1, 2, 1, 5, 6, 0, 1, 7, 1, 0, 8, 0, 1, 9, 1, 10, 0, 11, 0, 1, 3, 2, 2, 5,
                 4, 2, 1, 5]
        self.assertEqual(answers(calls), [
            1, 0,
            1, 0, 1, 1, 1, 2,
            7, 3, 0, 0, 4, 0, 2, 1,
            1, 1,
            1, 5,
            2, 0, 16,
            3, 2, 0, 2,
            3, 2, 1, 2,
            2, 1, 2,
            1, 0,
            1, 3,
            1, 2,
            5, 2, 0, 0, -2, -5,
        ])

    def test_the_count_counts_what_is_behind_it(self):
        self.assertEqual(answers([0, 5]), [1, 0, 1, 0])
        self.assertEqual(answers([0, 1, -3, 4, 5, 8, 0, 0, 9, 0]), [1, 0, 1, 0, 3, 1, -3, 4, 2, 0, 0, 1, 0])

    def test_a_refusal_is_its_number_alone(self):
        self.assertEqual(answers([5]), [1, -11])
        self.assertEqual(answers([0, 1, 100, 0]), [1, 0, 1, -22])
        self.assertEqual(answers([0] + [1, 0, 0] * 11)[-2:], [1, -28])
        for call in (drop(0), move(0, 0, 0), heard(0, 0), kind(0, 0), square(0, 0), past(0), future(0), between(0, 0)):
            with self.subTest(call=call):
                self.assertEqual(answers([0] + call), [1, 0, 1, -2])

    def test_ahead_of_begin_the_numbers_behind_a_call_are_not_taken_for_calls(self):
        for call in (put(0, 0), drop(0), move(0, 0, 0), heard(0, 0), kind(0, 0), square(0, 0), past(0), future(0),
                     between(0, 0)):
            with self.subTest(call=call):
                self.assertEqual(answers(call + turn()), [1, -11, 1, -11])

    def check_long(self, calls, expected):
        # assertEqual would look for the differences of two lists as long as these for minutes.
        self.assertTrue(answers(calls) == expected, calls[:8])

    def test_256_calls(self):
        self.check_long(begin() + put(1, 2) + events() * 254, [1, 0, 1, 0] + [3, 1, 1, 2] * 254)
        self.check_long(turn() * 256, [1, -11] * 256)

    def test_256_calls_of_the_longest_answers(self):
        ten = [(k, -k) for k in range(10)]
        ahead = begin() + joined([put(t, x) for t, x in ten])
        told = [1, 0] + joined([[1, k] for k in range(10)])
        self.check_long(ahead + events() * 245, told + ([21, 10] + joined(ten)) * 245)

    def test_1024_numbers(self):
        self.check_long(begin() + put(0, 0) + move(0, 1, 1) * 251 + put(5, 5) + turn() + events(),
                        [1, 0, 1, 0] + [1, 0] * 251 + [1, 1, 1, 2, 5, 2, -1, -1, -5, -5])
        self.check_long(move(LAST_NUMBER, LEAST, LEAST) * 256, [1, -11] * 256)

    def test_what_is_handed_in_stays_as_it_was(self):
        calls = joined([begin(), put(1, 2), put(3, 4), put(5, 6), drop(1), move(0, 7, 8), turn(), events(), put(100, 0),
                        heard(0, 1), kind(0, 1), square(0, 1), past(0), future(0), between(0, 1), begin()])
        kept = list(calls)
        answers(calls)
        self.assertEqual(calls, kept)

    def test_nothing_is_kept_from_one_time_to_the_next(self):
        calls = joined([begin()] + [put(k, 0) for k in range(11)] + [turn(), events(), past(0)])
        told = answers(calls)
        self.assertEqual(answers(calls), told)
        self.assertEqual(answers(events()), [1, -11])
        self.assertEqual(answers(begin() + events()), [1, 0, 1, 0])

    def test_what_was_answered_may_be_changed(self):
        calls = begin() + put(1, 2) + events()
        told = answers(calls)
        kept = list(told)
        told.clear()
        self.assertEqual(answers(calls), kept)

    def test_a_list_of_whole_numbers(self):
        calls = joined([begin(), put(0, 0), put(2, 1), events(), heard(0, 1), heard(1, 0), kind(0, 1), square(0, 1),
                        past(1), future(0), between(0, 1), turn(), move(0, 1, 1), drop(0), drop(9)])
        told = answers(calls)
        self.assertIs(type(told), list)
        self.assertEqual({type(number) for number in told}, {int})
        self.assertEqual(len(parted(told)), 15)


if __name__ == "__main__":
    unittest.main()
