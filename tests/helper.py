"""Calls by name, and their answers as one list for each call."""

from lightevents.events import answers

LEAST = -2147483648
GREATEST = 2147483647
LAST_NUMBER = 4294967295


def begin():
    return [0]


def put(t, x):
    return [1, t, x]


def drop(i):
    return [2, i]


def move(i, t, x):
    return [3, i, t, x]


def turn():
    return [4]


def events():
    return [5]


def heard(i, j):
    return [6, i, j]


def kind(i, j):
    return [7, i, j]


def square(i, j):
    return [8, i, j]


def past(i):
    return [9, i]


def future(i):
    return [10, i]


def between(i, j):
    return [11, i, j]


def aside(i):
    return [12, i]


def first(i, j):
    return [13, i, j]


def last(i, j):
    return [14, i, j]


def reach(i, t, x):
    return [15, i, t, x]


def by(i, t):
    return [16, i, t]


def long(i):
    return [17, i]


def longest():
    return [18]


def clock():
    return [19]


def most():
    return [20]


def clocks():
    return [21]


def back():
    return [22]


def state():
    return [23]


def joined(calls):
    return [number for call in calls for number in call]


def parted(numbers):
    parts = []
    at = 0
    while at < len(numbers):
        end = at + 1 + numbers[at]
        parts.append(numbers[at + 1:end])
        at = end
    return parts


def told(*calls):
    """The answers of these calls on one new object."""
    numbers = joined(calls)
    if len(calls) > 256 or len(numbers) > 1024:
        raise AssertionError("no list as long is ever handed in")
    parts = parted(answers(numbers))
    if len(parts) != len(calls):
        raise AssertionError(f"{len(calls)} calls, {len(parts)} answers")
    return parts


def told_with(points, *calls):
    """The answers of these calls where, after a begin, events were put at these points."""
    ahead = [begin()] + [put(t, x) for t, x in points]
    return told(*ahead, *calls)[len(ahead):]


def looks(i, j):
    """Every call that only looks."""
    return [events(), heard(i, j), kind(i, j), square(i, j), past(i), future(i), between(i, j), aside(i), first(i, j),
            last(i, j), reach(i, 3, -1), by(i, 3), long(i), longest(), clock(), most(), clocks(), state()]


def as_told(points):
    """What events answers where the events are at these points."""
    return [len(points)] + [number for point in points for number in point]


def as_clocks(answer):
    """The clocks that such an answer of clocks tells."""
    parts = parted(answer[1:])
    if len(parts) != answer[0]:
        raise AssertionError(f"{answer[0]} clocks, {len(parts)} told")
    return parts


class Draw:
    """Numbers that look as if drawn, the same ones each time."""

    def __init__(self, seed):
        self.seed = seed

    def number(self, least, greatest):
        self.seed = (self.seed * 6364136223846793005 + 1442695040888963407) % 2 ** 64
        return least + (self.seed >> 33) % (greatest - least + 1)

    def points(self, count, far):
        return [(self.number(-far, far), self.number(-far, far)) for k in range(count)]


def many_lists():
    """Lists of 0 to 10 events: near one another, so that some are at one time and place, and far off."""
    draw = Draw(1)
    found = [[], [(0, 0)], [(5, -5)] * 2, [(-1, 2)] * 10]
    for far in (1, 2, 3, 5, 9, 30, 99):
        for count in range(1, 11):
            found.extend(draw.points(count, far) for k in range(3))
    return found
