"""The calls on one new row of windows, and what they answer."""

from windowrow.asking import critical, done, last, slack, wait, waits, way
from windowrow.blocking import blocked, leaves, rooms
from windowrow.orders import best, order, swap, turned
from windowrow.persons import change, come, leave, start
from windowrow.reading import read_calls
from windowrow.refusals import NOT_STARTED
from windowrow.row import Row
from windowrow.telling import idle, person, state

START = 0
COME = 1
LEAVE = 2
CHANGE = 3
DONE = 4
WAIT = 5
LAST = 6
WAY = 7
CRITICAL = 8
SLACK = 9
WAITS = 10
ORDER = 11
BEST = 12
TURNED = 13
SWAP = 14
BLOCKED = 15
LEAVES = 16
ROOMS = 17
PERSON = 18
IDLE = 19


def answer(row, call, given):
    """The numbers that one call answers."""
    if call == START:
        return start(row, given[0])
    if row.windows == 0:
        return [NOT_STARTED]
    if call <= CHANGE:
        return answer_changing(row, call, given)
    if call <= WAITS:
        return answer_asking(row, call, given)
    if call <= SWAP:
        return answer_orders(row, call, given)
    if call <= ROOMS:
        return answer_blocking(row, call, given)
    return answer_telling(row, call, given)


def answer_changing(row, call, given):
    """The numbers that come, leave or change answers."""
    if call == COME:
        return come(row, given[0], given[1])
    if call == LEAVE:
        return leave(row, given[0])
    return change(row, given[0], given[1], given[2])


def answer_asking(row, call, given):
    """The numbers that a call from done to waits answers."""
    if call == DONE:
        return done(row, given[0], given[1])
    if call == WAIT:
        return wait(row, given[0], given[1])
    if call == LAST:
        return last(row)
    if call == WAY:
        return way(row, given[0], given[1])
    if call == CRITICAL:
        return critical(row)
    if call == SLACK:
        return slack(row, given[0], given[1])
    return waits(row)


def answer_orders(row, call, given):
    """The numbers that order, best, turned or swap answers."""
    if call == ORDER:
        return order(row, given[0])
    if call == BEST:
        return best(row)
    if call == TURNED:
        return turned(row)
    return swap(row, given[0], given[1])


def answer_blocking(row, call, given):
    """The numbers that blocked, leaves or rooms answers."""
    if call == BLOCKED:
        return blocked(row, given[0])
    if call == LEAVES:
        return leaves(row, given[0], given[1], given[2])
    return rooms(row)


def answer_telling(row, call, given):
    """The numbers that person, idle or state answers."""
    if call == PERSON:
        return person(row, given[0])
    if call == IDLE:
        return idle(row, given[0])
    return state(row)


def answers(calls):
    """For each call how many numbers it answers, then these, all in one list."""
    row = Row()
    told = []
    for call, given in read_calls(calls):
        numbers = answer(row, call, given)
        told.append(len(numbers))
        told.extend(numbers)
    return told
