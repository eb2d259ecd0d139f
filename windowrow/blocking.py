"""The calls about how many may stand between two windows: blocked, leaves, rooms.

Each gives the list of the numbers that it answers.
"""

from windowrow.plan import last_done
from windowrow.refusals import NO_SUCH, WRONG

MOST_BETWEEN = 20


def left_behind(ahead, in_the_way, coming, taken):
    """When a person leaves each window.

    The one before it leaves them as ahead tells; the one who must have left the next window, as in_the_way tells.
    """
    # Behind the last window nobody stands in the way: one leaves it when it's done.
    onwards = in_the_way[1:] + [0]
    own = []
    at = coming
    for free, onward, stay in zip(ahead, onwards, taken):
        at = max(max(at, free) + stay, onward)
        own.append(at)
    return own


def left_times(row, between):
    """When each person leaves each window, if so many may stand between two windows."""
    # Where there is no such person, minute 0 holds nobody up.
    nobody = [0] * row.windows
    left = []
    for person, taken in enumerate(row.minutes):
        ahead = left[person - 1] if person > 0 else nobody
        in_the_way = left[person - between - 1] if person > between else nobody
        left.append(left_behind(ahead, in_the_way, row.comings[person], taken))
    return left


def blocked(row, between):
    """When the last one is done, if so many may stand between; then by how much later that is."""
    if between > MOST_BETWEEN:
        return [WRONG]
    late = last_done(left_times(row, between))
    return [late, late - last_done(row.all_done())]


def leaves(row, between, person, window):
    """When a person leaves a window, if so many may stand between."""
    if not row.has_place(person, window):
        return [NO_SUCH]
    if between > MOST_BETWEEN:
        return [WRONG]
    return [left_times(row, between)[person][window]]


def rooms(row):
    """How few may be let stand between so that the last one is done no later than with room for all."""
    soonest = last_done(row.all_done())
    between = 0
    # It ends: with as many between as persons, nobody stands in another's way.
    while last_done(left_times(row, between)) > soonest:
        between = between + 1
    return [between]
