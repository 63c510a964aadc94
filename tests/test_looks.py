"""heard, kind, square, past, future, between, aside."""

import unittest

from helper import LAST_NUMBER, aside, between, drop, future, heard, kind, many_lists, move, past, square, told_with

# Ten events, each just by light or slower from the one ahead of it.
ROW = [(0, 0), (1, 1), (2, 1), (3, 0), (3, 0), (4, -1), (6, 1), (7, 1), (9, -1), (99, 89)]
SQUARE_POINTS = [(t, x) for t in range(-2, 3) for x in range(-2, 3)]


def two(call, one, other):
    """What is answered of events 0 and 1 at these times and places."""
    return told_with([one, other], call(0, 1))[0]


class NoSuchEvent(unittest.TestCase):
    def test_of_two(self):
        for call in (heard, kind, square, between):
            for points in ([], [(1, 2)], ROW):
                for i in (len(points), len(points) + 1, LAST_NUMBER):
                    with self.subTest(call=call.__name__, points=points, i=i):
                        self.assertEqual(told_with(points, call(i, 0), call(0, i), call(i, i)), [[-2]] * 3)

    def test_of_one(self):
        for call in (past, future, aside):
            for points in ([], [(1, 2)], ROW):
                for i in (len(points), len(points) + 1, LAST_NUMBER):
                    with self.subTest(call=call.__name__, points=points, i=i):
                        self.assertEqual(told_with(points, call(i)), [[-2]])

    def test_dropped(self):
        self.assertEqual(told_with([(0, 0), (1, 0)], drop(0), heard(0, 1), heard(0, 0), past(1)),
                         [[1], [-2], [1], [-2]])


class Heard(unittest.TestCase):
    def test_of_itself(self):
        self.assertEqual(told_with([(5, -7)], heard(0, 0)), [[1]])

    def test_just_by_light(self):
        for x in (-3, 3):
            self.assertEqual(told_with([(0, 0), (3, x)], heard(0, 1), heard(1, 0)), [[1], [0]])

    def test_one_place_off_at_one_time(self):
        for x in (-1, 1):
            self.assertEqual(told_with([(4, 0), (4, x)], heard(0, 1), heard(1, 0)), [[0], [0]])

    def test_later_and_too_far(self):
        for x in (-4, 4, 99):
            self.assertEqual(told_with([(0, 0), (3, x)], heard(0, 1), heard(1, 0)), [[0], [0]])

    def test_later_and_near_enough(self):
        for x in (-2, 0, 2):
            self.assertEqual(told_with([(0, 0), (3, x)], heard(0, 1), heard(1, 0)), [[1], [0]])

    def test_same_time_and_place(self):
        self.assertEqual(told_with([(2, 2), (2, 2)], heard(0, 1), heard(1, 0)), [[1], [1]])

    def test_from_edge_to_edge(self):
        self.assertEqual(told_with([(-99, -99), (99, 99), (98, 99)], heard(0, 1), heard(0, 2), heard(2, 1)),
                         [[1], [0], [1]])

    def test_both_ways_only_where_it_is_the_same(self):
        for one in SQUARE_POINTS:
            for other in SQUARE_POINTS:
                both = two(heard, one, other) == [1] and two(heard, other, one) == [1]
                self.assertEqual(both, one == other, (one, other))

    def test_through_a_third(self):
        known = {}
        for one in SQUARE_POINTS:
            for other in SQUARE_POINTS:
                known[(one, other)] = two(heard, one, other) == [1]
        for one in SQUARE_POINTS:
            for third in SQUARE_POINTS:
                for other in SQUARE_POINTS:
                    if known[(one, third)] and known[(third, other)]:
                        self.assertTrue(known[(one, other)], (one, third, other))

    def test_after_move(self):
        self.assertEqual(told_with([(0, 0), (3, 4)], heard(0, 1), move(1, 3, 3), heard(0, 1)), [[0], [0], [1]])


class Kind(unittest.TestCase):
    def test_same(self):
        self.assertEqual(told_with([(2, 2), (2, 2)], kind(0, 1), kind(1, 0), kind(0, 0)), [[0], [0], [0]])

    def test_by_light(self):
        for x in (-5, 5):
            self.assertEqual(told_with([(1, 0), (6, x)], kind(0, 1), kind(1, 0)), [[1], [4]])

    def test_by_what_is_slower(self):
        for x in (-4, 0, 4):
            self.assertEqual(told_with([(1, 0), (6, x)], kind(0, 1), kind(1, 0)), [[2], [5]])

    def test_neither(self):
        for t, x in ((1, 1), (1, -1), (6, 6), (6, -6), (-4, 6), (-4, -6)):
            self.assertEqual(told_with([(1, 0), (t, x)], kind(0, 1), kind(1, 0)), [[3], [3]])

    def test_as_heard_and_square_say(self):
        for one in SQUARE_POINTS:
            for other in SQUARE_POINTS:
                told = two(kind, one, other)[0]
                self.assertEqual(two(heard, one, other), [1 if told in (0, 1, 2) else 0])
                self.assertEqual(two(heard, other, one), [1 if told in (0, 4, 5) else 0])
                self.assertEqual(two(square, one, other)[1] == 0, told in (0, 1, 4))


class Square(unittest.TestCase):
    def test_above_0(self):
        self.assertEqual(told_with([(0, 0), (5, 3)], square(0, 1), square(1, 0)), [[0, 16], [0, 16]])

    def test_0(self):
        self.assertEqual(told_with([(0, 0), (5, -5), (0, 0)], square(0, 1), square(1, 0), square(0, 2), square(1, 1)),
                         [[0, 0]] * 4)

    def test_below_0(self):
        self.assertEqual(told_with([(0, 0), (3, 5)], square(0, 1), square(1, 0)), [[0, -16], [0, -16]])

    def test_below_0_with_the_other_one_earlier(self):
        self.assertEqual(told_with([(0, 0), (-3, 5), (-3, -5)], square(0, 1), square(0, 2)), [[0, -16], [0, -16]])

    def test_at_one_time(self):
        self.assertEqual(told_with([(4, 0), (4, 1)], square(0, 1)), [[0, -1]])

    def test_from_edge_to_edge(self):
        self.assertEqual(told_with([(-99, 0), (99, 0), (0, -99), (0, 99)], square(0, 1), square(2, 3)),
                         [[0, 39204], [0, -39204]])


class PastAndFuture(unittest.TestCase):
    def test_one_event(self):
        self.assertEqual(told_with([(3, 3)], past(0), future(0)), [[0], [0]])

    def test_none_of_others(self):
        self.assertEqual(told_with([(0, 0), (0, 1), (1, 5)], past(0), future(0)), [[0], [0]])

    def test_some_told_out_of_order(self):
        points = [(9, 0), (0, 0), (5, 0), (4, 4), (5, 5), (6, -1), (-1, 3)]
        self.assertEqual(told_with(points, past(2), future(2), past(0), future(1)),
                         [[2, 1, 6], [2, 0, 5], [5, 1, 2, 3, 5, 6], [5, 0, 2, 3, 4, 5]])

    def test_just_by_light(self):
        self.assertEqual(told_with([(0, 0), (2, 2), (2, 3), (2, -2)], future(0), past(1), past(2), past(3)),
                         [[2, 1, 3], [1, 0], [0], [1, 0]])

    def test_others_at_the_same_time_and_place(self):
        points = [(1, 1), (1, 1), (0, 0), (1, 1)]
        self.assertEqual(told_with(points, past(1), future(1), past(2), future(2)),
                         [[3, 0, 2, 3], [2, 0, 3], [0], [3, 0, 1, 3]])

    def test_ten_in_one_row(self):
        self.assertEqual(told_with(ROW, past(9), future(9), past(0), future(0)),
                         [[9, 0, 1, 2, 3, 4, 5, 6, 7, 8], [0], [0], [9, 1, 2, 3, 4, 5, 6, 7, 8, 9]])
        self.assertEqual(told_with(ROW, past(3), future(3)), [[4, 0, 1, 2, 4], [6, 4, 5, 6, 7, 8, 9]])

    def test_ten_at_one_time_and_place(self):
        self.assertEqual(told_with([(0, 0)] * 10, past(4), future(4)), [[9, 0, 1, 2, 3, 5, 6, 7, 8, 9]] * 2)


class Between(unittest.TestCase):
    def test_none(self):
        self.assertEqual(told_with([(0, 0), (4, 0), (2, 3), (5, 0), (-1, 0)], between(0, 1)), [[0]])

    def test_some_told_out_of_order(self):
        points = [(3, 1), (4, 0), (1, 0), (0, 0), (2, -2), (2, 3), (5, 0)]
        self.assertEqual(told_with(points, between(3, 1), between(3, 6)), [[3, 0, 2, 4], [4, 0, 1, 2, 4]])

    def test_just_by_light(self):
        self.assertEqual(told_with([(0, 0), (4, 4), (2, 2), (2, 1), (2, 3)], between(0, 1)), [[1, 2]])

    def test_others_at_the_same_time_and_place(self):
        points = [(0, 0), (0, 0), (4, 0), (4, 0), (4, 0)]
        self.assertEqual(told_with(points, between(0, 2), between(0, 1), between(3, 2)),
                         [[3, 1, 3, 4], [0], [1, 4]])

    def test_i_and_j_the_same(self):
        points = [(0, 0), (1, 0), (0, 0), (-1, 0), (0, 0)]
        self.assertEqual(told_with(points, between(0, 0), between(2, 2), between(1, 1)), [[2, 2, 4], [2, 0, 4], [0]])

    def test_where_at_j_one_cannot_have_heard_of_i(self):
        points = [(0, 0), (4, 0), (2, 0), (0, 0), (0, 9), (4, 0)]
        self.assertEqual(told_with(points, between(1, 0), between(0, 4), between(4, 0)), [[0], [0], [0]])

    def test_ten_in_one_row(self):
        self.assertEqual(told_with(ROW, between(0, 9), between(9, 0), between(2, 6)),
                         [[8, 1, 2, 3, 4, 5, 6, 7, 8], [0], [3, 3, 4, 5]])


class Aside(unittest.TestCase):
    def test_one_event(self):
        self.assertEqual(told_with([(3, 3)], aside(0)), [[0]])

    def test_none_of_others(self):
        self.assertEqual(told_with([(0, 0), (4, 1), (-4, -3)], aside(0)), [[0]])

    def test_some_told_out_of_order(self):
        points = [(1, 9), (0, 0), (-3, 4), (2, 2), (0, -5), (3, -4), (7, 0)]
        self.assertEqual(told_with(points, aside(1), aside(6), aside(0)),
                         [[4, 0, 2, 4, 5], [1, 0], [6, 1, 2, 3, 4, 5, 6]])

    def test_not_itself_and_not_one_at_the_same_time_and_place(self):
        self.assertEqual(told_with([(1, 1), (1, 1), (1, 7), (1, 1)], aside(0), aside(1), aside(2)),
                         [[1, 2], [1, 2], [3, 0, 1, 3]])

    def test_not_what_light_alone_joins(self):
        for t in (-2, 2):
            self.assertEqual(told_with([(0, 0), (t, 2), (t, -2), (t, 3), (t, -3)], aside(0)), [[2, 3, 4]])

    def test_one_place_off_at_one_time(self):
        self.assertEqual(told_with([(4, 0), (4, 1), (4, -1)], aside(0), aside(1)), [[2, 1, 2], [2, 0, 2]])

    def test_ten_apart_and_ten_in_one_row(self):
        apart = [(0, 7 * k) for k in range(10)]
        self.assertEqual(told_with(apart, aside(3)), [[9, 0, 1, 2, 4, 5, 6, 7, 8, 9]])
        self.assertEqual(told_with(ROW, *[aside(k) for k in range(10)]), [[0]] * 10)

    def test_those_of_kind_3(self):
        for points in many_lists():
            pairs = [(i, j) for i in range(len(points)) for j in range(len(points))]
            kinds = dict(zip(pairs, told_with(points, *[kind(i, j) for i, j in pairs])))
            for i, answer in enumerate(told_with(points, *[aside(i) for i in range(len(points))])):
                expected = [j for j in range(len(points)) if kinds[(i, j)] == [3]]
                self.assertEqual(answer, [len(expected)] + expected, (points, i))


if __name__ == "__main__":
    unittest.main()
