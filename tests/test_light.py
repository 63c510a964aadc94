"""first, last, reach, by."""

import math
import unittest

from helper import GREATEST, LAST_NUMBER, LEAST, by, drop, first, last, many_lists, move, reach, told_with

OUT = (-100, 100, -1000, LEAST, GREATEST)
# Of two events: where both can first be heard of, and from where light last comes to both.
MEETINGS = [
    # At one time and place.
    ((4, -7), (4, -7), [4, 1, -7, 1], [4, 1, -7, 1]),
    # One can have been heard of at the other: by what's slower, and just by light.
    ((0, 0), (4, 1), [4, 1, 1, 1], [0, 1, 0, 1]),
    ((-5, 2), (-4, 2), [-4, 1, 2, 1], [-5, 1, 2, 1]),
    ((0, 0), (3, 3), [3, 1, 3, 1], [0, 1, 0, 1]),
    ((1, 1), (4, -2), [4, 1, -2, 1], [1, 1, 1, 1]),
    # Neither: whole times and places.
    ((0, 0), (0, 2), [1, 1, 1, 1], [-1, 1, 1, 1]),
    ((0, 0), (0, 4), [2, 1, 2, 1], [-2, 1, 2, 1]),
    ((0, 0), (2, -6), [4, 1, -4, 1], [-2, 1, -2, 1]),
    # Neither: halves, also below 0.
    ((0, 0), (0, 1), [1, 2, 1, 2], [-1, 2, 1, 2]),
    ((0, 0), (0, -1), [1, 2, -1, 2], [-1, 2, -1, 2]),
    ((-3, 0), (-3, 5), [-1, 2, 5, 2], [-11, 2, 5, 2]),
    ((7, -9), (8, -5), [19, 2, -13, 2], [11, 2, -15, 2]),
    # 0 is 0, 1.
    ((-1, -1), (-1, 1), [0, 1, 0, 1], [-2, 1, 0, 1]),
    ((1, -1), (1, 1), [2, 1, 0, 1], [0, 1, 0, 1]),
    # At -99 and 99.
    ((-99, -99), (-99, 99), [0, 1, 0, 1], [-198, 1, 0, 1]),
    ((99, -99), (99, 99), [198, 1, 0, 1], [0, 1, 0, 1]),
    ((-99, -99), (99, 99), [99, 1, 99, 1], [-99, 1, -99, 1]),
    ((-99, 99), (99, -99), [99, 1, -99, 1], [-99, 1, 99, 1]),
    ((99, -99), (98, 99), [395, 2, -1, 2], [-1, 2, 1, 2]),
    ((-99, 99), (-98, -99), [1, 2, -1, 2], [-395, 2, 1, 2]),
]


class FirstAndLast(unittest.TestCase):
    def test_meetings(self):
        for one, two, at_first, at_last in MEETINGS:
            with self.subTest(one=one, two=two):
                self.assertEqual(told_with([one, two], first(0, 1), last(0, 1)), [[0] + at_first, [0] + at_last])

    def test_the_other_way_about(self):
        for one, two, at_first, at_last in MEETINGS:
            with self.subTest(one=one, two=two):
                self.assertEqual(told_with([one, two], first(1, 0), last(1, 0)), [[0] + at_first, [0] + at_last])

    def test_one_and_the_same_event(self):
        for t, x in ((0, 0), (-3, 8), (99, -99)):
            self.assertEqual(told_with([(1, 2), (t, x)], first(1, 1), last(1, 1)), [[0, t, 1, x, 1]] * 2)

    def test_no_such_event(self):
        for points in ([], [(1, 2)], [(k, k) for k in range(10)]):
            for i in (len(points), len(points) + 1, LAST_NUMBER):
                for call in (first, last):
                    with self.subTest(points=points, i=i, call=call.__name__):
                        self.assertEqual(told_with(points, call(i, 0), call(0, i), call(i, i)), [[-2]] * 3)

    def test_nothing_in_common(self):
        for points in many_lists():
            pairs = [(i, j) for i in range(len(points)) for j in range(i, len(points))]
            calls = [call(i, j) for i, j in pairs for call in (first, last)]
            for answer in told_with(points, *calls):
                self.assertEqual(len(answer), 5)
                self.assertEqual(answer[0], 0)
                for above, below in (answer[1:3], answer[3:5]):
                    self.assertGreaterEqual(below, 1)
                    self.assertEqual(math.gcd(above, below), 1, answer)

    def test_after_move_and_drop(self):
        self.assertEqual(told_with([(0, 0), (0, 1), (9, 0)], move(0, 0, -1), first(0, 1), drop(0), first(0, 1)),
                         [[0], [0, 1, 1, 0, 1], [2], [0, 9, 1, 0, 1]])


class Reach(unittest.TestCase):
    def test_at_the_event_itself(self):
        self.assertEqual(told_with([(3, -4)], reach(0, 3, -4)), [[1]])

    def test_just_by_light(self):
        self.assertEqual(told_with([(3, -4)], reach(0, 8, 1), reach(0, 8, -9), reach(0, 8, 2), reach(0, 8, -10)),
                         [[1], [1], [0], [0]])

    def test_later_and_near_enough(self):
        self.assertEqual(told_with([(3, -4)], reach(0, 4, -4), reach(0, 8, 0), reach(0, 8, -8)), [[1]] * 3)

    def test_one_place_off_at_one_time(self):
        self.assertEqual(told_with([(3, -4)], reach(0, 3, -3), reach(0, 3, -5)), [[0], [0]])

    def test_earlier(self):
        self.assertEqual(told_with([(3, -4)], reach(0, 2, -4), reach(0, 2, -3), reach(0, -99, -4)), [[0]] * 3)

    def test_the_event_that_is_told(self):
        self.assertEqual(told_with([(0, 0), (5, 0), (0, 9)], reach(0, 4, 1), reach(1, 4, 1), reach(2, 4, 1)),
                         [[1], [0], [0]])

    def test_edges(self):
        self.assertEqual(told_with([(-99, -99), (0, 0)], reach(0, 99, 99), reach(0, 98, 99), reach(0, -99, -99),
                                   reach(1, 99, -99), reach(1, -99, 99)), [[1], [0], [1], [1], [0]])

    def test_out_of_range(self):
        for out in OUT:
            for t, x in ((out, 0), (0, out), (out, out), (out, 99), (-99, out)):
                with self.subTest(t=t, x=x):
                    self.assertEqual(told_with([(0, 0)], reach(0, t, x)), [[-22]])

    def test_no_such_event_ahead_of_out_of_range(self):
        for points in ([], [(1, 2)], [(0, 0)] * 10):
            for i in (len(points), LAST_NUMBER):
                for t in (0,) + OUT:
                    with self.subTest(points=points, i=i, t=t):
                        self.assertEqual(told_with(points, reach(i, t, 0), reach(i, 0, t)), [[-2], [-2]])


class By(unittest.TestCase):
    def test_at_its_own_time(self):
        self.assertEqual(told_with([(3, -4)], by(0, 3)), [[0, -4, -4]])

    def test_later(self):
        self.assertEqual(told_with([(3, -4)], by(0, 4), by(0, 13)), [[0, -5, -3], [0, -14, 6]])

    def test_beyond_the_edges(self):
        self.assertEqual(told_with([(-99, 99), (-99, -99), (0, 0)], by(0, 99), by(1, 99), by(2, 99), by(1, -98)),
                         [[0, -99, 297], [0, -297, 99], [0, -99, 99], [0, -100, -98]])

    def test_there_is_none(self):
        self.assertEqual(told_with([(3, -4), (99, 0), (-98, 0)], by(0, 2), by(0, -99), by(1, 98), by(2, -99)),
                         [[-33]] * 4)

    def test_at_the_edges(self):
        self.assertEqual(told_with([(99, 1), (-99, 2)], by(0, 99), by(1, -99)), [[0, 1, 1], [0, 2, 2]])

    def test_out_of_range_ahead_of_none(self):
        for out in OUT:
            for t in (-99, 0, 99):
                with self.subTest(out=out, t=t):
                    self.assertEqual(told_with([(t, 0)], by(0, out)), [[-22]])

    def test_no_such_event_ahead_of_out_of_range(self):
        for points in ([], [(1, 2)], [(0, 0)] * 10):
            for i in (len(points), LAST_NUMBER):
                for t in (0, -99) + OUT:
                    with self.subTest(points=points, i=i, t=t):
                        self.assertEqual(told_with(points, by(i, t)), [[-2]])

    def test_as_reach_says(self):
        for t in range(-3, 8):
            answer = told_with([(0, 2)], by(0, t))[0]
            places = [x for x in range(-20, 21) if told_with([(0, 2)], reach(0, t, x)) == [[1]]]
            self.assertEqual(answer, [0, places[0], places[-1]] if places else [-33])


if __name__ == "__main__":
    unittest.main()
