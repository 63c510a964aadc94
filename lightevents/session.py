"""One object: the events that are there, and the calls on it.

Each call answers a list of whole numbers; a refusal is its number alone.
"""

from lightevents.light import is_heard, kind_of, square_of

MOST_EVENTS = 10
FARTHEST = 99

NO_EVENT = -2
OUT_OF_RANGE = -22
TOO_MANY = -28


def in_range(t, x):
    return abs(t) <= FARTHEST and abs(x) <= FARTHEST


def counted(numbers):
    return [len(numbers)] + numbers


class Session:
    """The events lie in points, each a tuple of its time and its place, in the order of their numbers.

    A change puts a new list in the place of points, so a list that was there is never altered.
    """

    def __init__(self):
        self.begun = False
        self.points = []

    def has(self, i):
        return 0 <= i < len(self.points)

    def others(self, i, j):
        return [k for k in range(len(self.points)) if k != i and k != j]

    def begin(self):
        self.begun = True
        self.points = []
        return [0]

    def put(self, t, x):
        if not in_range(t, x):
            return [OUT_OF_RANGE]
        if len(self.points) >= MOST_EVENTS:
            return [TOO_MANY]
        self.points = self.points + [(t, x)]
        return [len(self.points) - 1]

    def drop(self, i):
        if not self.has(i):
            return [NO_EVENT]
        self.points = self.points[:i] + self.points[i + 1:]
        return [len(self.points)]

    def move(self, i, t, x):
        if not self.has(i):
            return [NO_EVENT]
        if not in_range(t, x):
            return [OUT_OF_RANGE]
        self.points = self.points[:i] + [(t, x)] + self.points[i + 1:]
        return [0]

    def turn(self):
        self.points = [(-point[0], -point[1]) for point in self.points]
        return [len(self.points)]

    def events(self):
        told = [len(self.points)]
        for point in self.points:
            told.append(point[0])
            told.append(point[1])
        return told

    def heard(self, i, j):
        if not (self.has(i) and self.has(j)):
            return [NO_EVENT]
        return [1 if is_heard(self.points[i], self.points[j]) else 0]

    def kind(self, i, j):
        if not (self.has(i) and self.has(j)):
            return [NO_EVENT]
        return [kind_of(self.points[i], self.points[j])]

    def square(self, i, j):
        if not (self.has(i) and self.has(j)):
            return [NO_EVENT]
        return [0, square_of(self.points[i], self.points[j])]

    def past(self, i):
        if not self.has(i):
            return [NO_EVENT]
        here = self.points[i]
        return counted([k for k in self.others(i, i) if is_heard(self.points[k], here)])

    def future(self, i):
        if not self.has(i):
            return [NO_EVENT]
        here = self.points[i]
        return counted([k for k in self.others(i, i) if is_heard(here, self.points[k])])

    def between(self, i, j):
        if not (self.has(i) and self.has(j)):
            return [NO_EVENT]
        one = self.points[i]
        two = self.points[j]
        found = []
        for k in self.others(i, j):
            if is_heard(one, self.points[k]) and is_heard(self.points[k], two):
                found.append(k)
        return counted(found)
