"""One object: the events that are there, and the calls on it.

Each call answers a list of whole numbers; a refusal is its number alone.
"""

from lightevents.light import NEITHER, first_of, is_heard, kind_of, last_of, square_of
from lightevents.rows import clock_of, clocks_for_all, longest_row, most_apart, row_lengths

MOST_EVENTS = 10
MOST_BACK = 10
FARTHEST = 99

NO_EVENT = -2
NO_CHANGE = -6
OUT_OF_RANGE = -22
TOO_MANY = -28
THERE_IS_NONE = -33


def in_range(number):
    return abs(number) <= FARTHEST


def counted(numbers):
    return [len(numbers)] + numbers


class Session:
    """The events lie in points, each a tuple of its time and its place, in the order of their numbers.

    A change puts a new list in the place of points, so a list that was there is never altered: earlier keeps
    those that were there ahead of each change that can be taken back, the last change's at its end.
    """

    def __init__(self):
        self.begun = False
        self.points = []
        self.earlier = []

    def has(self, i):
        return 0 <= i < len(self.points)

    def others(self, i, j):
        return [k for k in range(len(self.points)) if k != i and k != j]

    def become(self, points):
        self.earlier = (self.earlier + [self.points])[-MOST_BACK:]
        self.points = points

    def begin(self):
        self.begun = True
        self.points = []
        self.earlier = []
        return [0]

    def back(self):
        if not self.earlier:
            return [NO_CHANGE]
        self.points = self.earlier[-1]
        self.earlier = self.earlier[:-1]
        return [len(self.earlier)]

    def state(self):
        return [len(self.points), len(self.earlier)]

    def put(self, t, x):
        if not (in_range(t) and in_range(x)):
            return [OUT_OF_RANGE]
        if len(self.points) >= MOST_EVENTS:
            return [TOO_MANY]
        self.become(self.points + [(t, x)])
        return [len(self.points) - 1]

    def drop(self, i):
        if not self.has(i):
            return [NO_EVENT]
        self.become(self.points[:i] + self.points[i + 1:])
        return [len(self.points)]

    def move(self, i, t, x):
        if not self.has(i):
            return [NO_EVENT]
        if not (in_range(t) and in_range(x)):
            return [OUT_OF_RANGE]
        self.become(self.points[:i] + [(t, x)] + self.points[i + 1:])
        return [0]

    def turn(self):
        self.become([(-point[0], -point[1]) for point in self.points])
        return [len(self.points)]

    def events(self):
        told = [len(self.points)]
        for point in self.points:
            told.append(point[0])
            told.append(point[1])
        return told

    def heard(self, i, j):
        if not (self.has(i) and self.has(j)):
            return [NO_EVENT]
        return [1 if is_heard(self.points[i], self.points[j]) else 0]

    def kind(self, i, j):
        if not (self.has(i) and self.has(j)):
            return [NO_EVENT]
        return [kind_of(self.points[i], self.points[j])]

    def square(self, i, j):
        if not (self.has(i) and self.has(j)):
            return [NO_EVENT]
        return [0, square_of(self.points[i], self.points[j])]

    def past(self, i):
        if not self.has(i):
            return [NO_EVENT]
        here = self.points[i]
        return counted([k for k in self.others(i, i) if is_heard(self.points[k], here)])

    def future(self, i):
        if not self.has(i):
            return [NO_EVENT]
        here = self.points[i]
        return counted([k for k in self.others(i, i) if is_heard(here, self.points[k])])

    def between(self, i, j):
        if not (self.has(i) and self.has(j)):
            return [NO_EVENT]
        one = self.points[i]
        two = self.points[j]
        found = []
        for k in self.others(i, j):
            if is_heard(one, self.points[k]) and is_heard(self.points[k], two):
                found.append(k)
        return counted(found)

    def aside(self, i):
        if not self.has(i):
            return [NO_EVENT]
        here = self.points[i]
        return counted([k for k in self.others(i, i) if kind_of(here, self.points[k]) == NEITHER])

    def first(self, i, j):
        if not (self.has(i) and self.has(j)):
            return [NO_EVENT]
        return [0] + first_of(self.points[i], self.points[j])

    def last(self, i, j):
        if not (self.has(i) and self.has(j)):
            return [NO_EVENT]
        return [0] + last_of(self.points[i], self.points[j])

    def reach(self, i, t, x):
        if not self.has(i):
            return [NO_EVENT]
        if not (in_range(t) and in_range(x)):
            return [OUT_OF_RANGE]
        return [1 if is_heard(self.points[i], (t, x)) else 0]

    def by(self, i, t):
        if not self.has(i):
            return [NO_EVENT]
        if not in_range(t):
            return [OUT_OF_RANGE]
        here = self.points[i]
        later = t - here[0]
        if later < 0:
            return [THERE_IS_NONE]
        return [0, here[1] - later, here[1] + later]

    def long(self, i):
        if not self.has(i):
            return [NO_EVENT]
        return [row_lengths(self.points)[i]]

    def longest(self):
        return [longest_row(self.points)]

    def clock(self):
        return counted(clock_of(self.points))

    def most(self):
        return [most_apart(self.points)]

    def clocks(self):
        found = clocks_for_all(self.points)
        told = [len(found)]
        for clock in found:
            told.extend(counted(clock))
        return told
