"""The calls that ask what would be, were the order another: order, best, turned, swap.

Each gives the list of the numbers that it answers.
"""

from windowrow.plan import done_behind, done_times, last_done
from windowrow.refusals import NO_SUCH, WRONG


def last_from_0(minutes):
    """When the last one would be done, were all there from minute 0 on."""
    return last_done(done_times([0] * len(minutes), minutes))


def order(row, wanted):
    """When the last one would be done in that order, were all there from minute 0 on."""
    if sorted(wanted) != list(range(len(row.minutes))):
        return [WRONG]
    return [last_from_0([row.minutes[person] for person in wanted])]


def one_longer(minutes, lines):
    """Each line with each person behind it that isn't in it.

    A line is a tuple: the persons in it, and when the last of them is done at each window.
    """
    longer = []
    for chosen, free in lines:
        for person, taken in enumerate(minutes):
            if person not in chosen:
                longer.append((chosen + [person], done_behind(free, 0, taken)))
    return longer


def best(row):
    """When the last one would be done at the soonest, were all there from minute 0 on; then the first such order."""
    lines = [([], [0] * row.windows)]
    while len(lines[0][0]) < len(row.minutes):
        lines = one_longer(row.minutes, lines)
    # Of two that are as soon the lesser tuple has the lesser number where their orders first differ.
    soonest = min([(free[-1], chosen) for chosen, free in lines])
    return [soonest[0]] + soonest[1]


def turned(row):
    """When the last one would be done, all turned round; then when, as they are: both from minute 0 on."""
    other = [list(reversed(taken)) for taken in reversed(row.minutes)]
    return [last_from_0(other), last_from_0(row.minutes)]


def swapped(taken, window, other):
    """A copy of a person's minutes, in which both windows have changed their places."""
    changed = list(taken)
    changed[window] = taken[other]
    changed[other] = taken[window]
    return changed


def swap(row, window, other):
    """When the last one would be done, had both windows changed their places."""
    if not row.has_window(window) or not row.has_window(other):
        return [NO_SUCH]
    minutes = [swapped(taken, window, other) for taken in row.minutes]
    return [last_done(done_times(row.comings, minutes))]
