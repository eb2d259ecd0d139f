"""When each person is done at each window, and along which way it gets so late.

Here comings holds the minute at which each person comes, minutes the list of
each person's minutes at the windows, and times the list of when each person is
done at the windows, as done_times gives it.
"""


def done_behind(ahead, coming, taken):
    """When a person is done at each window, behind one who is done there as ahead tells."""
    own = []
    at = coming
    for free, stay in zip(ahead, taken):
        at = max(at, free) + stay
        own.append(at)
    return own


def done_times(comings, minutes):
    """When each person is done at each window."""
    times = []
    for coming, taken in zip(comings, minutes):
        # Nobody is ahead of the first person; minute 0 holds nobody up.
        ahead = times[-1] if times else [0] * len(taken)
        times.append(done_behind(ahead, coming, taken))
    return times


def last_done(times):
    """When the last one is done: 0 if nobody is there."""
    # Nobody passes another, so nobody is done later than the person behind all others.
    return times[-1][-1] if times else 0


def ready_at(comings, times, person, window):
    """From when on the person would begin at the window, were it free."""
    if window == 0:
        return comings[person]
    return times[person][window - 1]


def held_up(comings, times, person, window):
    """Whether the longest way to there leads over the person before."""
    if person == 0:
        return False
    free = times[person - 1][window]
    return free > 0 and free >= ready_at(comings, times, person, window)


def longest_way(comings, times, person, window):
    """The steps of the longest way to there, from its beginning on: tuples of a person and a window."""
    back = [(person, window)]
    while True:
        if held_up(comings, times, person, window):
            person = person - 1
        elif window > 0:
            window = window - 1
        else:
            break
        back.append((person, window))
    return list(reversed(back))


def minutes_beyond(minutes):
    """For each person and window: how long the longest way onward is, without the minutes there."""
    beyond = [[0] * len(taken) for taken in minutes]
    for person in range(len(minutes) - 1, -1, -1):
        for window in range(len(minutes[person]) - 1, -1, -1):
            over_person = minutes_from(minutes, beyond, person + 1, window)
            over_window = minutes_from(minutes, beyond, person, window + 1)
            beyond[person][window] = max(over_person, over_window)
    return beyond


def minutes_from(minutes, beyond, person, window):
    """How long the longest way that begins there is: 0 if there is no such person or window."""
    if person == len(minutes) or window == len(minutes[person]):
        return 0
    return minutes[person][window] + beyond[person][window]
