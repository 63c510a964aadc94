"""Rows of events, the clock, and clocks for all.

The events are told as a list of tuples, each one's time and place, in the order of their numbers.
"""

from lightevents.light import is_apart_below, is_heard, time_and_place, time_less_place


def may_go_on(points, k, i):
    """Whether in a row the event i may stand behind the event k."""
    if points[k] == points[i]:
        return k < i
    return is_heard(points[k], points[i])


def row_lengths(points):
    """Of each event the most events of a row that ends at it."""
    lengths = [0] * len(points)
    # A row goes on to what is later, or to a greater number at one time and place: so, taken in this order,
    # all events from which a row may go on to one are counted ahead of it.
    for i in sorted(range(len(points)), key=lambda k: (points[k][0], k)):
        lengths[i] = 1 + max([lengths[k] for k in range(len(points)) if may_go_on(points, k, i)], default=0)
    return lengths


def longest_row(points):
    return max(row_lengths(points), default=0)


def clock_of(points):
    lengths = row_lengths(points)
    ends = [i for i in range(len(points)) if lengths[i] == max(lengths)]
    clock = []
    while ends:
        last = min(ends)
        clock = [last] + clock
        before = [k for k in range(len(points)) if may_go_on(points, k, last)]
        ends = [k for k in before if lengths[k] == lengths[last] - 1]
    return clock


def most_apart(points):
    """The most events, of no two of which one can have been heard of at the other."""
    # Being apart below is an order: where each is so to the next, each is apart from all of them.
    rising = sorted(points, key=lambda point: point[1])
    counts = []
    for i, point in enumerate(rising):
        counts.append(1 + max([counts[k] for k in range(i) if is_apart_below(rising[k], point)], default=0))
    return max(counts, default=0)


def clock_to_take(lasts, own):
    """The first of those clocks whose last is the greatest no greater than its own, or None."""
    taken = None
    for c, last in enumerate(lasts):
        if last <= own and (taken is None or last > lasts[taken]):
            taken = c
    return taken


def clocks_for_all(points):
    order = sorted(range(len(points)), key=lambda k: (time_less_place(points[k]), time_and_place(points[k]), k))
    clocks = []
    for i in order:
        lasts = [time_and_place(points[clock[-1]]) for clock in clocks]
        taken = clock_to_take(lasts, time_and_place(points[i]))
        if taken is None:
            clocks.append([i])
        else:
            clocks[taken].append(i)
    return clocks
