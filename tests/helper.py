"""Calls by name, and their answers as one list for each call."""

from lightevents.events import answers

LEAST = -2147483648
GREATEST = 2147483647
LAST_NUMBER = 4294967295


def begin():
    return [0]


def put(t, x):
    return [1, t, x]


def drop(i):
    return [2, i]


def move(i, t, x):
    return [3, i, t, x]


def turn():
    return [4]


def events():
    return [5]


def heard(i, j):
    return [6, i, j]


def kind(i, j):
    return [7, i, j]


def square(i, j):
    return [8, i, j]


def past(i):
    return [9, i]


def future(i):
    return [10, i]


def between(i, j):
    return [11, i, j]


def joined(calls):
    return [number for call in calls for number in call]


def parted(numbers):
    parts = []
    at = 0
    while at < len(numbers):
        end = at + 1 + numbers[at]
        parts.append(numbers[at + 1:end])
        at = end
    return parts


def told(*calls):
    """The answers of these calls on one new object."""
    parts = parted(answers(joined(calls)))
    if len(parts) != len(calls):
        raise AssertionError(f"{len(calls)} calls, {len(parts)} answers")
    return parts


def told_with(points, *calls):
    """The answers of these calls where, after a begin, events were put at these points."""
    ahead = [begin()] + [put(t, x) for t, x in points]
    return told(*ahead, *calls)[len(ahead):]


def looks(i, j):
    """Every call that only looks."""
    return [events(), heard(i, j), kind(i, j), square(i, j), past(i), future(i), between(i, j)]
