"""back and state."""

import unittest

from helper import (GREATEST, LAST_NUMBER, Draw, as_told, back, begin, by, drop, events, looks, move, put, reach, state,
                    told, told_with, turn)

THREE = [(1, 2), (3, -4), (0, 9)]


class State(unittest.TestCase):
    def test_after_begin(self):
        self.assertEqual(told(begin(), state()), [[0], [0, 0]])

    def test_after_each_change(self):
        self.assertEqual(told(begin(), put(1, 1), state(), put(2, 2), state(), move(0, 3, 3), state(), turn(), state(),
                              drop(1), state()),
                         [[0], [0], [1, 1], [1], [2, 2], [0], [2, 3], [2], [2, 4], [1], [1, 5]])

    def test_after_each_back(self):
        self.assertEqual(told_with(THREE, state(), back(), state(), back(), state(), back(), state(), back(), state()),
                         [[3, 3], [2], [2, 2], [1], [1, 1], [0], [0, 0], [-6], [0, 0]])

    def test_ten_at_the_most(self):
        for count in (9, 10, 11, 12, 40):
            with self.subTest(count=count):
                self.assertEqual(told(begin(), *[turn()] * count, state())[-1], [0, min(count, 10)])


class Back(unittest.TestCase):
    def test_no_change(self):
        self.assertEqual(told(begin(), back(), back(), events(), state()), [[0], [-6], [-6], [0], [0, 0]])

    def test_once_all_is_taken_back(self):
        self.assertEqual(told(begin(), put(1, 1), back(), back(), events()), [[0], [0], [0], [-6], [0]])

    def test_each_change(self):
        changes = [put(5, 5), put(1, 2), turn(), move(0, 1, 2)]
        changes += [drop(i) for i in range(3)] + [move(i, 7, 7) for i in range(3)]
        for change in changes:
            with self.subTest(change=change):
                answered = told_with(THREE, change, back(), events(), state())
                self.assertGreaterEqual(answered[0][0], 0)
                self.assertEqual(answered[1:], [[3], as_told(THREE), [3, 3]])

    def test_the_put_of_the_tenth(self):
        ten = [(k, k) for k in range(10)]
        self.assertEqual(told_with(ten, put(1, 1), back(), events(), put(7, 8), events()),
                         [[-28], [9], as_told(ten[:9]), [9], as_told(ten[:9] + [(7, 8)])])

    def test_the_drop_out_of_ten(self):
        ten = [(k, k) for k in range(10)]
        self.assertEqual(told_with(ten, drop(4), back(), events(), put(0, 0)), [[9], [9], as_told(ten), [-28]])

    def test_turn_without_events(self):
        self.assertEqual(told(begin(), turn(), state(), back(), back()), [[0], [0], [0, 1], [0], [-6]])

    def test_move_to_where_it_is(self):
        self.assertEqual(told_with([(1, 2)], move(0, 1, 2), state(), back(), state(), events()),
                         [[0], [1, 2], [1], [1, 1], [1, 1, 2]])

    def test_one_after_another(self):
        self.assertEqual(told_with(THREE, drop(0), turn(), move(1, 8, 8), back(), events(), back(), events(), back(),
                                   events()),
                         [[2], [2], [0], [5], [2, -3, 4, 0, -9], [4], [2, 3, -4, 0, 9], [3], as_told(THREE)])

    def test_is_no_change_itself(self):
        self.assertEqual(told_with([(1, 1), (2, 2)], back(), events(), back(), events(), back()),
                         [[1], [1, 1, 1], [0], [0], [-6]])

    def test_a_change_after_it(self):
        self.assertEqual(told_with([(1, 1), (2, 2)], back(), put(3, 3), state(), back(), events(), back(), events()),
                         [[1], [1], [2, 2], [1], [1, 1, 1], [0], [0]])

    def test_the_last_ten_alone(self):
        for count in range(9, 16):
            with self.subTest(count=count):
                moves = [move(0, k, -k) for k in range(1, count + 1)]
                answered = told(begin(), put(0, 0), *moves, *[back(), events()] * 10, back(), events())
                expected = []
                for step in range(1, 11):
                    at = count - step
                    expected += [[10 - step], [1, at, -at] if at >= 0 else [0]]
                expected += [[-6], expected[-1]]
                self.assertEqual(answered[count + 2:], expected)

    def test_ten_again_after_some_are_taken_back(self):
        self.assertEqual(told(begin(), put(0, 0), *[move(0, k, 0) for k in range(1, 13)], back(), back(), back(),
                              state(), *[move(0, k, 1) for k in range(4)], state(), *[back()] * 10, events(),
                              back())[14:],
                         [[9], [8], [7], [1, 7]] + [[0]] * 4 + [[1, 10]] + [[k] for k in range(9, -1, -1)]
                         + [[1, 3, 0], [-6]])

    def test_begin_again(self):
        self.assertEqual(told_with(THREE, begin(), state(), events(), back(), put(4, 4), back(), back(), state()),
                         [[0], [0, 0], [0], [-6], [0], [0], [-6], [0, 0]])

    def test_what_is_refused_counts_for_nothing(self):
        refused = [put(100, 0), put(0, GREATEST), drop(3), drop(LAST_NUMBER), move(3, 0, 0), move(0, 100, 0),
                   move(0, 0, -100), reach(3, 0, 0), reach(0, 100, 0), by(3, 0), by(0, 100), by(0, -99)]
        for call in refused + looks(3, 3):
            with self.subTest(call=call):
                self.assertEqual(told_with(THREE, call, state(), events(), back(), events())[1:],
                                 [[3, 3], as_told(THREE), [2], as_told(THREE[:2])])

    def test_the_eleventh_event_counts_for_nothing(self):
        ten = [(k, k) for k in range(10)]
        self.assertEqual(told_with(ten[:9], turn(), turn(), put(9, 9), put(0, 0), *[back()] * 10, events()),
                         [[9], [9], [9], [-28]] + [[k] for k in range(9, -1, -1)] + [as_told(ten[:2])])

    def test_a_refused_back_counts_for_nothing(self):
        self.assertEqual(told(begin(), back(), put(1, 1), state(), back(), back(), put(2, 2), state(), events()),
                         [[0], [-6], [0], [1, 1], [0], [-6], [0], [1, 1], [1, 2, 2]])

    def test_looking_counts_for_nothing(self):
        self.assertEqual(told_with(THREE, *looks(0, 1), *looks(2, 0), back(), events())[-2:],
                         [[2], as_told(THREE[:2])])


def drawn_change(draw):
    which = draw.number(0, 5)
    if which <= 1:
        return put(draw.number(-100, 100), draw.number(-100, 100))
    if which == 2:
        return drop(draw.number(0, 4))
    if which <= 4:
        return move(draw.number(0, 5), draw.number(-100, 100), draw.number(-100, 100))
    return turn()


class Model(unittest.TestCase):
    def test_many_changes_and_backs(self):
        for seed in range(60):
            draw = Draw(seed)
            calls = [begin()]
            for k in range(80):
                calls += [back() if draw.number(0, 3) == 0 else drawn_change(draw), state(), events()]
            self.check(calls, told(*calls))

    def check(self, calls, answered):
        """What events told ahead of each change is kept here, and asked of each back."""
        kept = []
        now = [0]
        for at in range(1, len(calls), 3):
            answer, counts, then = answered[at:at + 3]
            if calls[at] == back():
                self.assertEqual(answer, [len(kept) - 1] if kept else [-6])
                now = kept.pop() if kept else now
                self.assertEqual(then, now)
            elif answer[0] < 0:
                self.assertEqual(then, now)
            else:
                kept = (kept + [now])[-10:]
                now = then
            self.assertEqual(counts, [now[0], len(kept)])


if __name__ == "__main__":
    unittest.main()
