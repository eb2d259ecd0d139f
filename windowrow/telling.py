"""The calls that tell of one person, of one window and of all: person, idle, state.

Each gives the list of the numbers that it answers.
"""

from windowrow.plan import last_done
from windowrow.refusals import NO_SUCH


def person(row, number):
    """When a person comes; then its minutes at each window."""
    if not row.has_person(number):
        return [NO_SUCH]
    return [row.comings[number]] + row.minutes[number]


def idle(row, window):
    """How many minutes, up to when the last one is done, nobody is served at a window."""
    if not row.has_window(window):
        return [NO_SUCH]
    # No two are served there at once, and all have been by then: the rest is idle.
    served = sum([taken[window] for taken in row.minutes])
    return [last_done(row.all_done()) - served]


def state(row):
    """How many persons; then how many windows, and when the last one is done."""
    return [len(row.minutes), row.windows, last_done(row.all_done())]
