"""The calls that ask when and how long: done, wait, last, way, critical, slack, waits.

Each gives the list of the numbers that it answers.
"""

from windowrow.plan import last_done, longest_way, minutes_beyond, ready_at
from windowrow.refusals import NO_SUCH, NOBODY


def done(row, person, window):
    """When a person is done at a window; then when it begins there."""
    if not row.has_place(person, window):
        return [NO_SUCH]
    end = row.all_done()[person][window]
    return [end, end - row.minutes[person][window]]


def time_waited(row, times, person, window):
    """How long a person waits at a window."""
    begin = times[person][window] - row.minutes[person][window]
    return begin - ready_at(row.comings, times, person, window)


def wait(row, person, window):
    """How long a person waits at a window."""
    if not row.has_place(person, window):
        return [NO_SUCH]
    return [time_waited(row, row.all_done(), person, window)]


def waited_at(row, times, window):
    """How long all wait at a window, together."""
    return sum([time_waited(row, times, person, window) for person in range(len(times))])


def waits(row):
    """How long all wait at all windows, together; then at each window."""
    times = row.all_done()
    waited = [waited_at(row, times, window) for window in range(row.windows)]
    return [sum(waited)] + waited


def last(row):
    """When the last one is done."""
    return [last_done(row.all_done())]


def numbers_of(steps):
    """The person and the window of each step, one step behind another."""
    told = []
    for step in steps:
        told.extend(step)
    return told


def way(row, person, window):
    """How many steps the longest way to a person at a window has; then the steps."""
    if not row.has_place(person, window):
        return [NO_SUCH]
    steps = longest_way(row.comings, row.all_done(), person, window)
    return [len(steps)] + numbers_of(steps)


def critical(row):
    """When the last one is done; then the longest way to the first person that is done so late."""
    times = row.all_done()
    if not times:
        return [NOBODY]
    latest = last_done(times)
    person = [own[-1] for own in times].index(latest)
    steps = longest_way(row.comings, times, person, row.windows - 1)
    return [latest] + numbers_of(steps)


def slack(row, person, window):
    """How much longer a person may take at a window so that the last one isn't later."""
    if not row.has_place(person, window):
        return [NO_SUCH]
    times = row.all_done()
    beyond = minutes_beyond(row.minutes)
    return [last_done(times) - times[person][window] - beyond[person][window]]
