"""long, longest, clock, most, clocks."""

import itertools
import unittest

from helper import (LAST_NUMBER, as_clocks, begin, clock, clocks, drop, long, longest, many_lists, most, put, told,
                    told_with, turn)
from lightevents.rows import clock_to_take

ROW = [(0, 0), (1, 1), (2, 1), (3, 0), (3, 0), (4, -1), (6, 1), (7, 1), (9, -1), (99, 89)]
APART = [(k % 2, 3 * k - 15) for k in range(10)]


def hears(one, two):
    return one[0] <= two[0] and abs(one[1] - two[1]) <= two[0] - one[0]


def is_row(points, row):
    """The row's words as they stand, over every two that are next to one another."""
    for k, i in zip(row, row[1:]):
        if not hears(points[k], points[i]) or (points[k] == points[i] and k > i):
            return False
    return True


def all_rows(points):
    found = [[i] for i in range(len(points))]
    for row in found:
        found.extend(row + [i] for i in range(len(points)) if i not in row and is_row(points, [row[-1], i]))
    return found


def most_of_none_heard(points):
    for count in range(len(points), 0, -1):
        for some in itertools.combinations(points, count):
            if not any(hears(one, two) or hears(two, one) for one, two in itertools.combinations(some, 2)):
                return count
    return 0


def laid(points):
    """Clocks for all, by the document's words."""
    order = sorted(range(len(points)), key=lambda i: (points[i][0] - points[i][1], sum(points[i]), i))
    found = []
    for i in order:
        fit = [row for row in found if sum(points[row[-1]]) <= sum(points[i])]
        if fit:
            max(fit, key=lambda row: sum(points[row[-1]])).append(i)
        else:
            found.append([i])
    return found


def longs(points):
    return [answer[0] for answer in told_with(points, *[long(i) for i in range(len(points))])]


class Long(unittest.TestCase):
    def test_no_such_event(self):
        for points in ([], [(1, 2)], ROW):
            for i in (len(points), len(points) + 1, LAST_NUMBER):
                with self.subTest(points=points, i=i):
                    self.assertEqual(told_with(points, long(i)), [[-2]])

    def test_one(self):
        self.assertEqual(longs([(5, 5)]), [1])

    def test_at_one_time_and_place_by_number(self):
        self.assertEqual(longs([(2, 2)] * 4), [1, 2, 3, 4])
        self.assertEqual(longs([(2, 2), (0, 0), (2, 2), (3, 3), (0, 0)]), [3, 1, 4, 5, 2])

    def test_told_out_of_order(self):
        self.assertEqual(longs([(9, 0), (0, 0), (5, 0), (7, 0), (2, 0)]), [5, 1, 3, 4, 2])

    def test_just_by_light_and_one_place_off(self):
        self.assertEqual(longs([(0, 0), (3, 3), (3, 4), (3, -3)]), [1, 2, 1, 2])
        self.assertEqual(longs([(4, 0), (4, 1), (4, -1)]), [1, 1, 1])

    def test_later_and_too_far(self):
        self.assertEqual(longs([(0, 0), (5, 6), (9, 0)]), [1, 1, 2])

    def test_ten_in_one_row(self):
        self.assertEqual(longs(ROW), list(range(1, 11)))
        self.assertEqual(longs(ROW[::-1]), [10, 9, 8, 7, 6, 4, 5, 3, 2, 1])

    def test_not_the_longest_of_all(self):
        self.assertEqual(longs([(0, 0), (1, 0), (2, 0), (0, 50), (1, 50)]), [1, 2, 3, 1, 2])

    def test_turned(self):
        self.assertEqual(told_with([(0, 0), (5, 0), (9, 0)], turn(), long(0), long(1), long(2)), [[3], [3], [2], [1]])


class LongestAndClock(unittest.TestCase):
    def check(self, points, row):
        self.assertEqual(told_with(points, longest(), clock()), [[len(row)], [len(row)] + row])

    def test_no_events(self):
        self.check([], [])

    def test_one(self):
        self.check([(-7, 7)], [0])

    def test_at_one_time_and_place_by_number(self):
        self.check([(2, 2)] * 2, [0, 1])
        self.check([(2, 2)] * 10, list(range(10)))
        self.check([(2, 2), (0, 0), (2, 2), (3, 3), (0, 0)], [1, 4, 0, 2, 3])

    def test_told_out_of_order(self):
        self.check([(9, 0), (0, 0), (5, 0), (7, 0), (2, 0)], [1, 4, 2, 3, 0])

    def test_just_by_light(self):
        self.check([(3, 3), (0, 0)], [1, 0])

    def test_one_place_off_at_one_time(self):
        self.check([(4, 1), (4, 0)], [0])

    def test_later_and_too_far(self):
        self.check([(0, 0), (3, 4)], [0])
        self.check([(0, 0), (5, 6), (9, 0)], [0, 2])

    def test_ends_at_several(self):
        self.check([(5, 1), (0, 0), (5, -1)], [1, 0])
        self.check([(0, 0), (5, -1), (5, 1)], [0, 1])
        self.check([(0, 50), (9, 0), (0, 0), (8, 50), (9, 3)], [2, 1])

    def test_several_from_which_it_may_go_on(self):
        self.check([(9, 0), (4, 2), (4, -2), (0, 0)], [3, 1, 0])
        self.check([(4, -2), (9, 0), (0, 0), (4, 2), (0, 1)], [2, 0, 1])

    def test_the_least_is_not_as_long_as_it_has_to_be(self):
        self.check([(4, 4), (0, 50), (1, 0), (5, 0), (9, 0)], [2, 3, 4])

    def test_the_last_one_goes_ahead_of_the_first(self):
        # The row from 0 ends at 3, the row from 1 at 2: 2 is the lesser end.
        self.check([(0, 0), (0, 50), (5, 50), (5, 0)], [1, 2])

    def test_ten_in_one_row(self):
        self.check(ROW, list(range(10)))
        self.check(ROW[::-1], [9, 8, 7, 5, 6, 4, 3, 2, 1, 0])

    def test_ten_apart(self):
        self.check(APART, [0])

    def test_after_drop(self):
        self.assertEqual(told_with([(0, 0), (5, 0), (9, 0)], drop(1), longest(), clock()), [[2], [2], [2, 0, 1]])


class Most(unittest.TestCase):
    def check(self, points, count):
        self.assertEqual(told_with(points, most()), [[count]])

    def test_no_events(self):
        self.check([], 0)

    def test_one(self):
        self.check([(4, 4)], 1)

    def test_at_one_time_and_place(self):
        self.check([(4, 4)] * 2, 1)
        self.check([(4, 4), (4, 5), (4, 4), (4, 5)], 2)

    def test_just_by_light_and_one_place_off(self):
        self.check([(0, 0), (3, 3)], 1)
        self.check([(3, 3), (0, 0)], 1)
        self.check([(0, 0), (0, 1)], 2)
        self.check([(0, 0), (3, 4)], 2)

    def test_ten_of_which_none_is_heard_of(self):
        self.check([(0, k) for k in range(10)], 10)
        self.check(APART, 10)
        self.check(APART[::-1], 10)

    def test_ten_in_one_row(self):
        self.check(ROW, 1)
        self.check([(0, 0)] * 10, 1)

    def test_some(self):
        self.check([(0, 0), (1, 0), (0, 5), (1, 5), (3, 2)], 2)
        self.check([(0, 0), (1, 0), (0, 5), (1, 5), (2, 2)], 3)


class Clocks(unittest.TestCase):
    def check(self, points, expected):
        answer = [len(expected)]
        for row in expected:
            answer.extend([len(row)] + row)
        self.assertEqual(told_with(points, clocks()), [answer])

    def test_as_told(self):
        self.assertEqual(told(begin(), clocks(), put(5, 5), clocks(), put(0, 0), clocks(), put(0, 9), clocks()),
                         [[0], [0], [0], [1, 1, 0], [1], [1, 2, 1, 0], [2], [2, 2, 2, 0, 1, 1]])

    def test_no_events(self):
        self.check([], [])

    def test_one(self):
        self.check([(-3, 9)], [[0]])

    def test_two_at_one_time_and_place(self):
        self.check([(-3, 9)] * 2, [[0, 1]])

    def test_laid_by_time_less_place(self):
        self.check([(1, -1), (0, 0)], [[1, 0]])
        # 1 is laid first, though its time and place together are the greater.
        self.check([(0, 0), (0, 2)], [[1], [0]])
        self.check([(0, 2), (0, 0)], [[0], [1]])

    def test_of_like_ones_by_time_and_place_together(self):
        self.check([(2, 2), (0, 0), (1, 1)], [[1, 2, 0]])
        self.check([(-3, -1), (-5, -3)], [[1, 0]])

    def test_of_like_ones_by_number(self):
        self.check([(1, 1), (0, 0), (1, 1), (0, 0)], [[1, 3, 0, 2]])

    def test_to_the_greatest_last_one(self):
        # (3, 3) and (2, 0) begin a clock each; (6, 2) may go to both, (5, -1) to the second alone.
        self.check([(5, -1), (6, 2), (2, 0), (3, 3)], [[3, 1], [2, 0]])

    def test_to_a_last_one_just_as_great(self):
        self.check([(0, 4), (0, 0), (3, 1)], [[0, 2], [1]])
        self.check([(0, 4), (0, 0), (2, 1)], [[0], [1, 2]])

    def test_the_first_of_like_ones(self):
        # No list of events comes to clocks with like last ones: one goes to a clock as great as it is.
        self.assertEqual(clock_to_take([3, 5, 5, 4], 5), 1)
        self.assertEqual(clock_to_take([5, 5], 6), 0)
        self.assertEqual(clock_to_take([7, 1, 3, 3, 1], 4), 2)
        self.assertIsNone(clock_to_take([2, 2], 1))
        self.assertIsNone(clock_to_take([], 0))

    def test_ten_apart(self):
        self.check(APART, [[k] for k in range(9, -1, -1)])

    def test_ten_in_one_row(self):
        self.check([(k, 0) for k in range(10)], [list(range(10))])
        self.check([(-k, 0) for k in range(10)], [list(range(9, -1, -1))])

    def test_ten_in_one_row_with_light_both_ways(self):
        self.check(ROW, [list(range(10))])


class OverManyLists(unittest.TestCase):
    def test_as_the_words_say(self):
        for points in many_lists():
            with self.subTest(points=points):
                rows = all_rows(points)
                self.assertEqual(longs(points), [max(len(row) for row in rows if row[-1] == i)
                                                 for i in range(len(points))])
                count = max([len(row) for row in rows], default=0)
                expected = min([row[::-1] for row in rows if len(row) == count], default=[])[::-1]
                self.assertEqual(told_with(points, longest(), clock()), [[count], [count] + expected])

    def test_longest_and_clock_and_long_agree(self):
        for points in many_lists():
            with self.subTest(points=points):
                count, answer = told_with(points, longest(), clock())
                self.assertEqual(count[0], answer[0])
                self.assertEqual(len(set(answer[1:])), answer[0])
                self.assertTrue(is_row(points, answer[1:]))
                self.assertEqual(max(longs(points), default=0), answer[0])
                self.assertEqual(told_with(points, *[long(i) for i in answer[1:]]),
                                 [[k] for k in range(1, answer[0] + 1)])

    def test_most_as_the_words_say(self):
        for points in many_lists():
            with self.subTest(points=points):
                self.assertEqual(told_with(points, most()), [[most_of_none_heard(points)]])

    def test_clocks_as_the_words_say(self):
        for points in many_lists():
            with self.subTest(points=points):
                self.assertEqual(as_clocks(told_with(points, clocks())[0]), laid(points))

    def test_each_event_in_just_one_clock(self):
        for points in many_lists():
            with self.subTest(points=points):
                found = as_clocks(told_with(points, clocks())[0])
                self.assertEqual(sorted(i for row in found for i in row), list(range(len(points))))
                for row in found:
                    self.assertTrue(row)
                    self.assertTrue(is_row(points, row))

    def test_as_many_clocks_as_most(self):
        for points in many_lists():
            with self.subTest(points=points):
                count, answer = told_with(points, most(), clocks())
                self.assertEqual(count[0], answer[0])


if __name__ == "__main__":
    unittest.main()
