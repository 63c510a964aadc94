"""begin, put, drop, move, turn, and the events as they tell of these."""

import unittest

from helper import (GREATEST, LAST_NUMBER, LEAST, as_told, back, begin, by, drop, events, heard, looks, move, put,
                    reach, told, told_with, turn)

TEN = [(k, -2 * k) for k in range(10)]
OUT = (-100, 100, LEAST, GREATEST)


class Begin(unittest.TestCase):
    def test_answers_0(self):
        self.assertEqual(told(begin()), [[0]])

    def test_no_events(self):
        self.assertEqual(told(begin(), events()), [[0], [0]])

    def test_again_leaves_no_events(self):
        self.assertEqual(told_with([(1, 2), (3, 4)], begin(), events(), put(5, 6), events()),
                         [[0], [0], [0], [1, 5, 6]])

    def test_again_leaves_room_for_ten(self):
        self.assertEqual(told_with(TEN, begin(), put(1, 1)), [[0], [0]])

    def test_twice_at_once(self):
        self.assertEqual(told(begin(), begin(), events()), [[0], [0], [0]])

    def test_ahead_of_it_all_others_are_refused(self):
        for i in (0, 1, LAST_NUMBER):
            for t in (0, 100, LEAST, GREATEST):
                calls = [put(t, 0), put(0, t), drop(i), move(i, t, t), turn(), reach(i, t, 0), reach(i, 0, t), by(i, t),
                         back()] + looks(i, 0) + looks(0, i)
                for call in calls:
                    with self.subTest(call=call):
                        self.assertEqual(told(call, begin(), events()), [[-11], [0], [0]])
                self.assertEqual(told(*calls), [[-11]] * len(calls))


class Put(unittest.TestCase):
    def test_numbers_from_0_on(self):
        answered = told_with([], *[put(t, x) for t, x in TEN], events())
        self.assertEqual(answered, [[k] for k in range(10)] + [as_told(TEN)])

    def test_out_of_range(self):
        for out in OUT:
            for t, x in ((out, 0), (0, out), (out, out), (out, 99), (-99, out)):
                with self.subTest(t=t, x=x):
                    self.assertEqual(told_with([(1, 2)], put(t, x), events()), [[-22], [1, 1, 2]])

    def test_edges_are_taken(self):
        for t in (-99, 0, 99):
            for x in (-99, 0, 99):
                with self.subTest(t=t, x=x):
                    self.assertEqual(told_with([], put(t, x), events()), [[0], [1, t, x]])

    def test_the_eleventh(self):
        self.assertEqual(told_with(TEN, put(0, 0), events()), [[-28], as_told(TEN)])

    def test_out_of_range_ahead_of_too_many(self):
        for out in OUT:
            with self.subTest(out=out):
                self.assertEqual(told_with(TEN, put(out, 0), put(0, out), events()), [[-22], [-22], as_told(TEN)])

    def test_room_again_after_drop(self):
        self.assertEqual(told_with(TEN, put(0, 0), drop(0), put(7, 8), put(0, 0), events()),
                         [[-28], [9], [9], [-28], as_told(TEN[1:] + [(7, 8)])])

    def test_two_at_one_time_and_place(self):
        self.assertEqual(told_with([], put(3, 4), put(3, 4), events()), [[0], [1], [2, 3, 4, 3, 4]])


class Drop(unittest.TestCase):
    def test_no_such_event(self):
        for points in ([], [(1, 2)], TEN):
            for i in (len(points), len(points) + 1, LAST_NUMBER):
                with self.subTest(points=points, i=i):
                    self.assertEqual(told_with(points, drop(i), events()), [[-2], as_told(points)])

    def test_each_one_of_ten(self):
        for i in range(10):
            with self.subTest(i=i):
                self.assertEqual(told_with(TEN, drop(i), events()), [[9], as_told(TEN[:i] + TEN[i + 1:])])

    def test_one_after_another(self):
        points = [(1, 2), (3, 4), (5, 6)]
        self.assertEqual(told_with(points, drop(1), drop(1), drop(1), drop(0), drop(0), events()),
                         [[2], [1], [-2], [0], [-2], [0]])

    def test_of_two_alike_one_is_left(self):
        self.assertEqual(told_with([(1, 2), (1, 2)], drop(0), events()), [[1], [1, 1, 2]])


class Move(unittest.TestCase):
    def test_each_one_of_ten(self):
        for i in range(10):
            with self.subTest(i=i):
                self.assertEqual(told_with(TEN, move(i, -99, 99), events()),
                                 [[0], as_told(TEN[:i] + [(-99, 99)] + TEN[i + 1:])])

    def test_edges_are_taken(self):
        for t in (-99, 99):
            for x in (-99, 99):
                with self.subTest(t=t, x=x):
                    self.assertEqual(told_with([(1, 2)], move(0, t, x), events()), [[0], [1, t, x]])

    def test_out_of_range(self):
        for out in OUT:
            for t, x in ((out, 0), (0, out), (out, out), (out, 99), (-99, out)):
                with self.subTest(t=t, x=x):
                    self.assertEqual(told_with([(1, 2)], move(0, t, x), events()), [[-22], [1, 1, 2]])

    def test_no_such_event(self):
        for points in ([], [(1, 2)], TEN):
            for i in (len(points), LAST_NUMBER):
                for t in (0,) + OUT:
                    with self.subTest(points=points, i=i, t=t):
                        self.assertEqual(told_with(points, move(i, t, 0), move(i, 0, t), events()),
                                         [[-2], [-2], as_told(points)])

    def test_onto_another_and_onto_itself(self):
        self.assertEqual(told_with([(1, 2), (3, 4)], move(0, 3, 4), move(1, 3, 4), events()),
                         [[0], [0], [2, 3, 4, 3, 4]])


class Turn(unittest.TestCase):
    def test_without_events(self):
        self.assertEqual(told_with([], turn(), events()), [[0], [0]])

    def test_signs(self):
        self.assertEqual(told_with([(1, -2), (0, 0), (-99, 99)], turn(), events()),
                         [[3], [3, -1, 2, 0, 0, 99, -99]])

    def test_twice(self):
        self.assertEqual(told_with(TEN, turn(), turn(), events()), [[10], [10], as_told(TEN)])

    def test_who_was_heard_of_can_have_heard(self):
        points = [(0, 0), (1, 1), (3, 1), (3, 1), (0, 1), (5, -9), (-4, 2)]
        pairs = [(i, j) for i in range(len(points)) for j in range(len(points))]
        plain = told_with(points, *[heard(i, j) for i, j in pairs])
        turned = told_with(points, turn(), *[heard(j, i) for i, j in pairs])
        self.assertEqual(turned, [[len(points)]] + plain)
        self.assertIn([1], plain)
        self.assertIn([0], plain)


class Events(unittest.TestCase):
    def test_after_each_change(self):
        self.assertEqual(
            told(begin(), events(), put(5, -5), events(), put(-1, 2), put(0, 7), events(), drop(0), events(),
                 move(1, 9, 9), events(), turn(), events(), put(-9, -9), events()),
            [[0], [0], [0], [1, 5, -5], [1], [2], [3, 5, -5, -1, 2, 0, 7], [2], [2, -1, 2, 0, 7],
             [0], [2, -1, 2, 9, 9], [2], [2, 1, -2, -9, -9], [2], [3, 1, -2, -9, -9, -9, -9]])


class NothingChanged(unittest.TestCase):
    def test_by_looking(self):
        for i in (0, 3, 9, 10, LAST_NUMBER):
            for call in looks(i, 4) + looks(4, i):
                with self.subTest(call=call):
                    self.assertEqual(told_with(TEN, call, events())[1], as_told(TEN))

    def test_by_refusals(self):
        for call in (put(0, 0), put(100, 0), drop(10), move(10, 0, 0), move(0, 100, 0), move(0, 0, -100)):
            with self.subTest(call=call):
                answered = told_with(TEN, call, events(), drop(9), events())
                self.assertLess(answered[0][0], 0)
                self.assertEqual(len(answered[0]), 1)
                self.assertEqual(answered[1:], [as_told(TEN), [9], as_told(TEN[:9])])


if __name__ == "__main__":
    unittest.main()
