"""The one list of calls, and the one list of answers."""

import unittest

from helper import (LAST_NUMBER, LEAST, aside, back, begin, between, by, clock, clocks, drop, events, first, future,
                    heard, joined, kind, last, long, longest, looks, most, move, parted, past, put, reach, square,
                    state, turn)
from lightevents.events import answers


class Answers(unittest.TestCase):
    def test_all_24_calls(self):
        calls = [0, 1, 0, 0, 1, 4, 0, 1, 0, 1, 1, 9, 9, 5, 6, 0, 1, 7, 0, 1, 8, 0, 1, 9, 1, 10, 0, 11, 0, 3, 12, 2,
                 13, 0, 2, 14, 0, 2, 15, 2, 1, 0, 16, 0, 5, 17, 3, 18, 19, 20, 21, 3, 3, 4, 1, 2, 3, 4, 22, 23]
        self.assertEqual(answers(calls), [
            1, 0,
            1, 0, 1, 1, 1, 2, 1, 3,
            9, 4, 0, 0, 4, 0, 0, 1, 9, 9,
            1, 1,
            1, 2,
            2, 0, 16,
            3, 2, 0, 2,
            3, 2, 1, 3,
            1, 0,
            2, 1, 0,
            5, 0, 1, 2, 1, 2,
            5, 0, -1, 2, 1, 2,
            1, 1,
            3, 0, -5, 5,
            1, 2,
            1, 2,
            3, 2, 0, 1,
            1, 2,
            7, 2, 2, 2, 3, 2, 0, 1,
            1, 0,
            1, 3,
            1, 3,
            1, 6,
            2, 3, 6,
        ])

    def test_each_number_of_a_call_stands_for_it(self):
        calls = [begin(), put(0, 0), drop(0), move(0, 0, 0), turn(), events(), heard(0, 0), kind(0, 0), square(0, 0),
                 past(0), future(0), between(0, 0), aside(0), first(0, 0), last(0, 0), reach(0, 0, 0), by(0, 0),
                 long(0), longest(), clock(), most(), clocks(), back(), state()]
        self.assertEqual([call[0] for call in calls], list(range(24)))
        ahead = begin() + put(3, 5) + put(3, 4)
        expected = [[0], [2], [1], [0], [2], [2, 3, 5, 3, 4], [1], [0], [0, 0], [0], [0], [0], [1, 1], [0, 3, 1, 5, 1],
                    [0, 3, 1, 5, 1], [0], [-33], [1], [1], [1, 0], [2], [2, 1, 0, 1, 1], [1], [2, 2]]
        for call, answer in zip(calls, expected):
            with self.subTest(call=call):
                self.assertEqual(answers(ahead + call), [1, 0, 1, 0, 1, 1, len(answer)] + answer)

    def test_each_call_by_its_number(self):
        calls = [0, 1, 0, 0, 1, 4, 0, 1, 2, 1, 5, 6, 0, 1, 7, 1, 0, 8, 0, 1, 9, 1, 10, 0, 11, 0, 1, 3, 2, 2, 5,
                 4, 2, 1, 5]
        self.assertEqual(answers(calls), [
            1, 0,
            1, 0, 1, 1, 1, 2,
            7, 3, 0, 0, 4, 0, 2, 1,
            1, 1,
            1, 5,
            2, 0, 16,
            3, 2, 0, 2,
            3, 2, 1, 2,
            2, 1, 2,
            1, 0,
            1, 3,
            1, 2,
            5, 2, 0, 0, -2, -5,
        ])

    def test_the_count_counts_what_is_behind_it(self):
        self.assertEqual(answers([0, 5]), [1, 0, 1, 0])
        self.assertEqual(answers([0, 1, -3, 4, 5, 8, 0, 0, 9, 0]), [1, 0, 1, 0, 3, 1, -3, 4, 2, 0, 0, 1, 0])

    def test_a_refusal_is_its_number_alone(self):
        self.assertEqual(answers([5]), [1, -11])
        self.assertEqual(answers([0, 1, 100, 0]), [1, 0, 1, -22])
        self.assertEqual(answers([0] + [1, 0, 0] * 11)[-2:], [1, -28])
        self.assertEqual(answers([0, 22]), [1, 0, 1, -6])
        self.assertEqual(answers([0, 1, 5, 0, 16, 0, 4]), [1, 0, 1, 0, 1, -33])
        self.assertEqual(answers([0, 1, 5, 0, 15, 0, 5, 100]), [1, 0, 1, 0, 1, -22])
        for call in (drop(0), move(0, 0, 0), heard(0, 0), kind(0, 0), square(0, 0), past(0), future(0), between(0, 0),
                     aside(0), first(0, 0), last(0, 0), reach(0, 0, 0), by(0, 0), long(0)):
            with self.subTest(call=call):
                self.assertEqual(answers([0] + call), [1, 0, 1, -2])

    def test_ahead_of_begin_the_numbers_behind_a_call_are_not_taken_for_calls(self):
        for call in [put(0, 0), drop(0), move(0, 0, 0), turn(), back()] + looks(0, 0):
            with self.subTest(call=call):
                self.assertEqual(answers(call + turn()), [1, -11, 1, -11])
                self.assertEqual(answers(call + begin() + state()), [1, -11, 1, 0, 2, 0, 0])

    def check_long(self, calls, expected):
        # assertEqual would look for the differences of two lists as long as these for minutes.
        self.assertTrue(answers(calls) == expected, calls[:8])

    def test_256_calls(self):
        self.check_long(begin() + put(1, 2) + events() * 254, [1, 0, 1, 0] + [3, 1, 1, 2] * 254)
        self.check_long(turn() * 256, [1, -11] * 256)

    def test_256_calls_of_the_longest_answers(self):
        ten = [(k, -k) for k in range(10)]
        ahead = begin() + joined([put(t, x) for t, x in ten])
        told = [1, 0] + joined([[1, k] for k in range(10)])
        self.check_long(ahead + events() * 245, told + ([21, 10] + joined(ten)) * 245)
        self.check_long(ahead + clock() * 245, told + [11, 10, 0, 1, 2, 3, 4, 5, 6, 7, 8, 9] * 245)

    def test_256_calls_of_the_most_clocks(self):
        apart = begin() + joined([put(0, -k) for k in range(10)])
        told = [1, 0] + joined([[1, k] for k in range(10)])
        self.check_long(apart + clocks() * 245, told + ([21, 10] + joined([[1, k] for k in range(10)])) * 245)

    def test_256_calls_each_one_taken_back(self):
        self.check_long(begin() + (turn() + back()) * 127 + state(), [1, 0] + [1, 0, 1, 0] * 127 + [2, 0, 0])
        self.check_long(begin() + turn() * 244 + back() * 11,
                        [1, 0] + [1, 0] * 244 + joined([[1, k] for k in range(9, -1, -1)]) + [1, -6])

    def test_1024_numbers(self):
        self.check_long(begin() + put(0, 0) + move(0, 1, 1) * 251 + put(5, 5) + turn() + events(),
                        [1, 0, 1, 0] + [1, 0] * 251 + [1, 1, 1, 2, 5, 2, -1, -1, -5, -5])
        self.check_long(move(LAST_NUMBER, LEAST, LEAST) * 256, [1, -11] * 256)

    def test_what_is_handed_in_stays_as_it_was(self):
        calls = joined([begin(), put(1, 2), put(3, 4), put(5, 6), drop(1), move(0, 7, 8), turn(), events(), put(100, 0),
                        back(), back()] + looks(0, 1) + looks(1, 9) + [begin(), back(), state()])
        kept = list(calls)
        answers(calls)
        self.assertEqual(calls, kept)

    def test_nothing_is_kept_from_one_time_to_the_next(self):
        calls = joined([begin()] + [put(k, 0) for k in range(11)] + [turn(), events(), past(0), back(), drop(3)]
                       + looks(2, 5))
        told = answers(calls)
        self.assertEqual(answers(calls), told)
        self.assertEqual(answers(begin() + back()), [1, 0, 1, -6])
        self.assertEqual(answers(events()), [1, -11])
        self.assertEqual(answers(begin() + events()), [1, 0, 1, 0])

    def test_what_was_answered_may_be_changed(self):
        calls = begin() + put(1, 2) + events()
        told = answers(calls)
        kept = list(told)
        told.clear()
        self.assertEqual(answers(calls), kept)

    def test_a_list_of_whole_numbers(self):
        calls = [begin(), put(0, 0), put(2, 1), put(2, 2)] + looks(0, 1) + looks(2, 1) + looks(1, 9)
        calls += [heard(1, 0), reach(0, -9, 0), turn(), move(0, 1, 1), drop(0), drop(9), back(), state()]
        told = answers(joined(calls))
        self.assertIs(type(told), list)
        self.assertEqual({type(number) for number in told}, {int})
        self.assertEqual(len(parted(told)), len(calls))


if __name__ == "__main__":
    unittest.main()
