"""A list of calls, coded as whole numbers one behind another, and the list of its answers."""

from firstbad.session import Session

ADD = 0
COUNT = 1
BEFORE = 2
START = 3
MARK = 4
UNDO = 5
LEFT = 6
LIST = 7
NEXT = 8
SPLIT = 9

# By a call's number, how many numbers the call takes up; add is not here, for its row has no fixed length.
LENGTHS = {1: 1, 2: 3, 3: 2, 4: 3, 5: 1, 6: 1, 7: 1, 8: 1, 9: 2, 10: 1}


def call_length(calls, at):
    if calls[at] == ADD:
        return 2 + calls[at + 1]
    return LENGTHS[calls[at]]


def one_number(session, call):
    number = call[0]
    if number == ADD:
        return session.add(call[2:])
    if number == COUNT:
        return session.count()
    if number == BEFORE:
        return session.before(call[1], call[2])
    if number == START:
        return session.start(call[1])
    if number == MARK:
        return session.mark(call[1], call[2])
    if number == UNDO:
        return session.undo()
    if number == LEFT:
        return session.left()
    if number == NEXT:
        return session.next_try()
    if number == SPLIT:
        return session.split(call[1])
    # call_length knows no call but these, so it is rest.
    return session.rest()


def answer(session, call):
    if call[0] == LIST:
        return session.listed()
    return [one_number(session, call)]


def answers(calls):
    session = Session()
    given = []
    at = 0
    while at < len(calls):
        length = call_length(calls, at)
        row = answer(session, calls[at:at + length])
        given.append(len(row))
        given.extend(row)
        at += length
    return given
