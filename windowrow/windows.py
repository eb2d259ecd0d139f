"""The calls on one new row of windows, and what they answer."""

from windowrow.asking import critical, done, last, slack, wait, waits, way
from windowrow.persons import change, come, leave, start
from windowrow.reading import read_calls
from windowrow.refusals import NOT_STARTED
from windowrow.row import Row

START = 0
COME = 1
LEAVE = 2
CHANGE = 3
DONE = 4
WAIT = 5
LAST = 6
WAY = 7
CRITICAL = 8
SLACK = 9
WAITS = 10


def answer(row, call, given):
    """The numbers that one call answers."""
    if call == START:
        return start(row, given[0])
    if row.windows == 0:
        return [NOT_STARTED]
    if call == COME:
        return come(row, given[0], given[1])
    if call == LEAVE:
        return leave(row, given[0])
    if call == CHANGE:
        return change(row, given[0], given[1], given[2])
    return answer_asked(row, call, given)


def answer_asked(row, call, given):
    """The numbers that a call answers by which nothing is changed."""
    if call == DONE:
        return done(row, given[0], given[1])
    if call == WAIT:
        return wait(row, given[0], given[1])
    if call == LAST:
        return last(row)
    if call == WAY:
        return way(row, given[0], given[1])
    if call == CRITICAL:
        return critical(row)
    if call == SLACK:
        return slack(row, given[0], given[1])
    if call == WAITS:
        return waits(row)
    # The calls from order on are only read past as yet: they answer no number.
    return []


def answers(calls):
    """For each call how many numbers it answers, then these, all in one list."""
    row = Row()
    told = []
    for call, given in read_calls(calls):
        numbers = answer(row, call, given)
        told.append(len(numbers))
        told.extend(numbers)
    return told
