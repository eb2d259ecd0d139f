"""The calls that change who is there: start, come, leave, change.

Each gives the list of the numbers that it answers.
"""

from windowrow.plan import last_done
from windowrow.refusals import FULL, NO_SUCH, WRONG

MOST_WINDOWS = 5
MOST_PERSONS = 6
LATEST_COMING = 200
MOST_MINUTES = 60


def start(row, windows):
    """As many windows as given, and nobody there."""
    if windows < 1 or windows > MOST_WINDOWS:
        return [WRONG]
    row.windows = windows
    row.comings = []
    row.minutes = []
    return [0]


def fits(row, coming, taken):
    """Whether one may come at that minute, with these minutes at the windows."""
    if coming > LATEST_COMING or len(taken) != row.windows:
        return False
    return max(taken) <= MOST_MINUTES


def come(row, coming, taken):
    """One more person behind the others: its number."""
    if not fits(row, coming, taken):
        return [WRONG]
    number = len(row.comings)
    if number == MOST_PERSONS:
        return [FULL]
    row.comings.append(coming)
    row.minutes.append(taken)
    return [number]


def leave(row, person):
    """Without that person: when the last one was done with it."""
    if not row.has_person(person):
        return [NO_SUCH]
    last = last_done(row.all_done())
    row.comings.pop(person)
    row.minutes.pop(person)
    return [last]


def change(row, person, window, stay):
    """Other minutes for a person at a window: how many it took."""
    if not row.has_place(person, window):
        return [NO_SUCH]
    if stay > MOST_MINUTES:
        return [WRONG]
    took = row.minutes[person][window]
    row.minutes[person][window] = stay
    return [took]
