"""What light allows between two events, each told as a tuple of its time and its place."""

SAME = 0
HEARD_BY_LIGHT = 1
HEARD_SLOWER = 2
NEITHER = 3
HEARS_BY_LIGHT = 4
HEARS_SLOWER = 5


def is_heard(one, two):
    """Whether at the event two one can have heard of the event one."""
    later = two[0] - one[0]
    # How far off is never below 0, so this also says that one is no later than two.
    return later >= abs(two[1] - one[1])


def is_apart_below(one, two):
    """Whether the event one has the lesser place, and neither can have been heard of at the other."""
    return two[1] - one[1] > abs(two[0] - one[0])


def square_of(one, two):
    later = two[0] - one[0]
    off = two[1] - one[1]
    return later * later - off * off


def kind_of(one, two):
    # Events at one time and place are heard of both ways, so they are told apart first.
    if one == two:
        return SAME
    by_light = square_of(one, two) == 0
    if is_heard(one, two):
        return HEARD_BY_LIGHT if by_light else HEARD_SLOWER
    if is_heard(two, one):
        return HEARS_BY_LIGHT if by_light else HEARS_SLOWER
    return NEITHER


def time_less_place(point):
    return point[0] - point[1]


def time_and_place(point):
    return point[0] + point[1]


def halves(number):
    """So many halves, as a fraction's two numbers with nothing in common."""
    if number % 2 == 0:
        return [number // 2, 1]
    return [number, 2]


def crossing(less, both):
    """The time and the place, a fraction each, with this time less place, and this time and place together."""
    return halves(both + less) + halves(both - less)


def first_of(one, two):
    # Light keeps time less place one way and time and place the other, and one can have heard of an event
    # wherever neither is less than at the event itself: so the earliest for both has the greater of each.
    return crossing(max(time_less_place(one), time_less_place(two)), max(time_and_place(one), time_and_place(two)))


def last_of(one, two):
    return crossing(min(time_less_place(one), time_less_place(two)), min(time_and_place(one), time_and_place(two)))
