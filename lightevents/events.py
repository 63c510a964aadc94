"""The calls on one new object, told and answered as one list of whole numbers."""

from lightevents.session import Session, counted

BEGIN = 0
PUT = 1
DROP = 2
MOVE = 3
TURN = 4
EVENTS = 5
HEARD = 6
KIND = 7
SQUARE = 8
PAST = 9
FUTURE = 10
BETWEEN = 11
ASIDE = 12
FIRST = 13
LAST = 14
REACH = 15
BY = 16
LONG = 17
LONGEST = 18
CLOCK = 19
MOST = 20
CLOCKS = 21
BACK = 22

# How many numbers stand behind each call's own number, from begin to state.
GIVEN_COUNTS = (0, 2, 1, 3, 0, 0, 2, 2, 2, 1, 1, 2, 1, 2, 2, 3, 2, 1, 0, 0, 0, 0, 0, 0)

NOT_BEGUN = -11


def change(session, number, given):
    if number == PUT:
        return session.put(given[0], given[1])
    if number == DROP:
        return session.drop(given[0])
    if number == MOVE:
        return session.move(given[0], given[1], given[2])
    return session.turn()


def tell_heard(session, number, given):
    if number == HEARD:
        return session.heard(given[0], given[1])
    if number == KIND:
        return session.kind(given[0], given[1])
    if number == SQUARE:
        return session.square(given[0], given[1])
    if number == PAST:
        return session.past(given[0])
    if number == FUTURE:
        return session.future(given[0])
    if number == BETWEEN:
        return session.between(given[0], given[1])
    return session.aside(given[0])


def tell_light(session, number, given):
    if number == FIRST:
        return session.first(given[0], given[1])
    if number == LAST:
        return session.last(given[0], given[1])
    if number == REACH:
        return session.reach(given[0], given[1], given[2])
    return session.by(given[0], given[1])


def tell_rows(session, number, given):
    if number == LONG:
        return session.long(given[0])
    if number == LONGEST:
        return session.longest()
    if number == CLOCK:
        return session.clock()
    if number == MOST:
        return session.most()
    return session.clocks()


def answer(session, number, given):
    if number == BEGIN:
        return session.begin()
    if not session.begun:
        return [NOT_BEGUN]
    if number <= TURN:
        return change(session, number, given)
    if number == EVENTS:
        return session.events()
    if number <= ASIDE:
        return tell_heard(session, number, given)
    if number <= BY:
        return tell_light(session, number, given)
    if number <= CLOCKS:
        return tell_rows(session, number, given)
    if number == BACK:
        return session.back()
    return session.state()


def answers(calls):
    """For each call, in order, how many numbers are answered, and these."""
    session = Session()
    told = []
    at = 0
    while at < len(calls):
        number = calls[at]
        end = at + 1 + GIVEN_COUNTS[number]
        told.extend(counted(answer(session, number, calls[at + 1:end])))
        at = end
    return told
