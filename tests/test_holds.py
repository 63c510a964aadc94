"""What holds of the whole program, over many lists of events."""

import itertools
import unittest
from fractions import Fraction

from helper import (Draw, back, begin, between, by, clock, clocks, drop, events, first, future, heard, last, looks,
                    many_lists, most, move, past, put, reach, square, state, told, told_with, turn)


def of_pairs(points, call, ahead=()):
    """What is answered of every two events, after these calls."""
    pairs = [(i, j) for i in range(len(points)) for j in range(len(points))]
    answered = told_with(points, *ahead, *[call(i, j) for i, j in pairs])[len(ahead):]
    return dict(zip(pairs, answered))


def meeting(answer):
    return Fraction(answer[1], answer[2]), Fraction(answer[3], answer[4])


def can_hear(one, two):
    return two[0] - one[0] >= abs(two[1] - one[1])


def all_looks(count):
    """Every call that looks, of each of so many events."""
    if count == 0:
        return looks(0, 0)
    return [call for i in range(count) for call in looks(i, (i + 1) % count)]


class WhoCanHaveHeard(unittest.TestCase):
    """a"""

    def test_of_oneself(self):
        for points in many_lists():
            known = of_pairs(points, heard)
            for i in range(len(points)):
                self.assertEqual(known[(i, i)], [1], points)

    def test_through_a_third(self):
        for points in many_lists():
            known = of_pairs(points, heard)
            for i, k, j in itertools.product(range(len(points)), repeat=3):
                if known[(i, k)] == [1] and known[(k, j)] == [1]:
                    self.assertEqual(known[(i, j)], [1], (points, i, k, j))

    def test_both_ways_only_where_it_is_the_same(self):
        for points in many_lists():
            known = of_pairs(points, heard)
            for i, j in known:
                both = known[(i, j)] == [1] and known[(j, i)] == [1]
                self.assertEqual(both, points[i] == points[j], (points, i, j))

    def test_past_future_and_between_say_so(self):
        for points in many_lists():
            known = of_pairs(points, heard)
            middles = of_pairs(points, between)
            numbers = range(len(points))
            for i in numbers:
                before, behind = told_with(points, past(i), future(i))
                self.assertEqual(before[1:], [k for k in numbers if k != i and known[(k, i)] == [1]])
                self.assertEqual(behind[1:], [k for k in numbers if k != i and known[(i, k)] == [1]])
                for j in numbers:
                    self.assertEqual(middles[(i, j)][1:], [k for k in numbers if k not in (i, j)
                                                           and known[(i, k)] == [1] and known[(k, j)] == [1]])

    def test_reach_says_so(self):
        for points in many_lists():
            known = of_pairs(points, heard)
            reached = of_pairs(points, lambda i, j: reach(i, *points[j]))
            self.assertEqual(known, reached, points)


class GoingStraight(unittest.TestCase):
    """b"""

    def test_takes_a_clock_longest(self):
        seen = 0
        for points in many_lists():
            known = of_pairs(points, heard)
            squares = of_pairs(points, square)
            for i, k, j in itertools.product(range(len(points)), repeat=3):
                if known[(i, k)] == [1] and known[(k, j)] == [1]:
                    straight, one, two = squares[(i, j)][1], squares[(i, k)][1], squares[(k, j)][1]
                    self.assertGreaterEqual(min(straight, one, two), 0)
                    # The root of straight is no less than the roots of one and two together.
                    more = straight - one - two
                    self.assertGreaterEqual(more, 0)
                    self.assertGreaterEqual(more * more, 4 * one * two)
                    seen += one > 0 and two > 0
        self.assertGreater(seen, 100)


class WhereTwoAreHeardOf(unittest.TestCase):
    """c"""

    def test_both_can_be_heard_of_there(self):
        for points in many_lists():
            firsts = of_pairs(points, first)
            lasts = of_pairs(points, last)
            for i, j in firsts:
                there = meeting(firsts[(i, j)])
                self.assertTrue(can_hear(points[i], there) and can_hear(points[j], there), (points, i, j))
                there = meeting(lasts[(i, j)])
                self.assertTrue(can_hear(there, points[i]) and can_hear(there, points[j]), (points, i, j))

    def test_whoever_can_have_heard_of_both_can_have_heard_from_there(self):
        for points in many_lists():
            known = of_pairs(points, heard)
            firsts = of_pairs(points, first)
            lasts = of_pairs(points, last)
            for i, j, k in itertools.product(range(len(points)), repeat=3):
                if known[(i, k)] == [1] and known[(j, k)] == [1]:
                    self.assertTrue(can_hear(meeting(firsts[(i, j)]), points[k]), (points, i, j, k))
                if known[(k, i)] == [1] and known[(k, j)] == [1]:
                    self.assertTrue(can_hear(points[k], meeting(lasts[(i, j)])), (points, i, j, k))

    def test_at_every_time_and_place_near(self):
        near = [(t, x) for t in range(-4, 5) for x in range(-4, 5)]
        draw = Draw(7)
        for k in range(60):
            points = draw.points(2, 3)
            there = meeting(told_with(points, first(0, 1))[0])
            one = told_with(points, *[reach(0, t, x) for t, x in near])
            two = told_with(points, *[reach(1, t, x) for t, x in near])
            for point, of_one, of_two in zip(near, one, two):
                self.assertEqual(of_one == [1] and of_two == [1], can_hear(there, point), (points, point))

    def test_turned_the_first_is_the_last(self):
        for points in many_lists():
            firsts = of_pairs(points, first)
            lasts = of_pairs(points, last, [turn()])
            for pair in firsts:
                t, x = meeting(firsts[pair])
                self.assertEqual(meeting(lasts[pair]), (-t, -x), (points, pair))


class TheClock(unittest.TestCase):
    """d"""

    def test_is_at_as_many_events_as_any_can(self):
        for points in many_lists():
            known = of_pairs(points, heard)
            numbers = range(len(points))
            # Events of which of each two one can have been heard of at the other can all stand in one row.
            best = max([len(some) for count in range(len(points) + 1) for some in itertools.combinations(numbers, count)
                        if all([1] in (known[(i, j)], known[(j, i)]) for i, j in itertools.combinations(some, 2))])
            answer = told_with(points, clock())[0]
            self.assertEqual(answer[0], best, points)
            self.assertEqual(len(set(answer[1:])), best, points)
            for i, j in itertools.combinations(answer[1:], 2):
                self.assertEqual(known[(i, j)], [1], points)


class AsFewClocks(unittest.TestCase):
    """e"""

    def test_as_there_are_of_which_none_is_heard_of(self):
        for points in many_lists():
            known = of_pairs(points, heard)
            numbers = range(len(points))
            best = max([len(some) for count in range(len(points) + 1) for some in itertools.combinations(numbers, count)
                        if not any([1] in (known[(i, j)], known[(j, i)]) for i, j in itertools.combinations(some, 2))])
            count, answer = told_with(points, most(), clocks())
            self.assertEqual(count, [best], points)
            self.assertEqual(answer[0], best, points)


class TurnedAndTakenBack(unittest.TestCase):
    """f"""

    def test_turned_whoever_was_heard_of_can_have_heard(self):
        for points in many_lists():
            plain = of_pairs(points, heard)
            turned = of_pairs(points, heard, [turn()])
            for i, j in plain:
                self.assertEqual(plain[(i, j)], turned[(j, i)], points)

    def test_taken_back_all_is_as_it_was(self):
        for points in many_lists():
            count = len(points)
            changes = [turn()]
            if count < 10:
                changes.append(put(1, -1))
            if count > 0:
                changes += [drop(count // 2), move(count - 1, 2, 2)]
            # state is left out: with ten puts ahead of the change the first can no longer be taken back.
            calls = [call for call in all_looks(count) if call != state()]
            before = told_with(points, *calls)
            for change in changes:
                self.assertEqual(told_with(points, change, back(), *calls)[2:], before, (points, change))

    def test_the_last_ten_one_after_another(self):
        for seed in range(40):
            draw = Draw(seed + 100)
            calls = [begin()]
            steps = []
            while len(steps) < 14:
                count = told(*calls, events())[-1][0]
                step = draw.number(0, 3)
                if step <= 1 and count < 10:
                    calls.append(put(draw.number(-4, 4), draw.number(-4, 4)))
                elif step == 2 and count > 0:
                    calls.append(drop(draw.number(0, count - 1)))
                elif step == 3 and count > 0:
                    calls.append(move(draw.number(0, count - 1), draw.number(-4, 4), draw.number(-4, 4)))
                else:
                    calls.append(turn())
                steps.append(list(calls))
            for taken in range(1, 11):
                look = [call for call in looks(0, 1) + looks(3, 2) if call != state()]
                self.assertEqual(told(*calls, *[back()] * taken, *look)[-len(look):],
                                 told(*steps[-1 - taken], *look)[-len(look):], (calls, taken))
                self.assertEqual(told(*calls, *[back()] * taken)[-1], [10 - taken])
            self.assertEqual(told(*calls, *[back()] * 11)[-1], [-6])

    def test_what_is_refused_changes_nothing(self):
        for points in many_lists():
            count = len(points)
            refused = [put(100, 0), put(0, -100), drop(count), move(count, 0, 0), heard(count, 0), first(0, count),
                       reach(count, 0, 0), by(count, 0)]
            if count == 10:
                refused.append(put(0, 0))
            if count > 0:
                refused += [move(0, 100, 0), move(0, 0, -100), reach(0, 0, 100), by(0, -100)]
            calls = all_looks(min(count, 6))
            answered = told_with(points, *refused, *calls)
            self.assertEqual([answer for answer in answered[:len(refused)] if len(answer) > 1 or answer[0] >= 0], [])
            self.assertEqual(answered[len(refused):], told_with(points, *calls), points)

    def test_looking_changes_nothing(self):
        for points in many_lists():
            calls = all_looks(min(len(points), 4))
            answered = told_with(points, *calls, *calls, events(), state())
            self.assertEqual(answered[:len(calls)], answered[len(calls):2 * len(calls)], points)
            self.assertEqual(answered[-2:], told_with(points, events(), state()), points)


if __name__ == "__main__":
    unittest.main()
