"""What light allows between two events, each told as a tuple of its time and its place."""

SAME = 0
HEARD_BY_LIGHT = 1
HEARD_SLOWER = 2
NEITHER = 3
HEARS_BY_LIGHT = 4
HEARS_SLOWER = 5


def is_heard(one, two):
    """Whether at the event two one can have heard of the event one."""
    later = two[0] - one[0]
    # How far off is never below 0, so this also says that one is no later than two.
    return later >= abs(two[1] - one[1])


def square_of(one, two):
    later = two[0] - one[0]
    off = two[1] - one[1]
    return later * later - off * off


def kind_of(one, two):
    # Events at one time and place are heard of both ways, so they are told apart first.
    if one == two:
        return SAME
    by_light = square_of(one, two) == 0
    if is_heard(one, two):
        return HEARD_BY_LIGHT if by_light else HEARD_SLOWER
    if is_heard(two, one):
        return HEARS_BY_LIGHT if by_light else HEARS_SLOWER
    return NEITHER
