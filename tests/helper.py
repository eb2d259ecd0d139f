"""What the tests share: calls as rows of numbers, answers call by call, and a slow model to compare with."""

import itertools

from windowrow.windows import answers

BIG = 4294967295


def start(m):
    return [0, m]


def come(t, *l):
    return [1, t, len(l), *l]


def leave(i):
    return [2, i]


def change(i, j, n):
    return [3, i, j, n]


def done(i, j):
    return [4, i, j]


def wait(i, j):
    return [5, i, j]


def last():
    return [6]


def way(i, j):
    return [7, i, j]


def critical():
    return [8]


def slack(i, j):
    return [9, i, j]


def waits():
    return [10]


def order(*o):
    return [11, len(o), *o]


def best():
    return [12]


def turned():
    return [13]


def swap(j, k):
    return [14, j, k]


def blocked(b):
    return [15, b]


def leaves(b, i, j):
    return [16, b, i, j]


def rooms():
    return [17]


def person(i):
    return [18, i]


def idle(j):
    return [19, j]


def state():
    return [20]


# Calls that only ask, each of them at least once. The numbers in them are calls'
# numbers too, so that whoever reads one number too few or too many goes astray.
ASKING = [
    done(0, 0), wait(1, 0), last(), way(1, 1), critical(), slack(0, 1), waits(), order(0, 1), order(1, 0), order(),
    order(0, 1, 2), order(*[0] * 60), best(), turned(), swap(0, 1), swap(2, 2), blocked(0), blocked(3), leaves(0, 1, 0),
    leaves(2, 2, 2), rooms(), person(1), person(2), idle(1), idle(3), state(),
]


def in_one(calls):
    """The calls as the one list that is handed in."""
    return [number for call in calls for number in call]


def each(told):
    """The answers call by call."""
    found = []
    at = 0
    while at < len(told):
        end = at + 1 + told[at]
        if end > len(told):
            raise AssertionError("an answer is shorter than its count says")
        found.append(told[at + 1:end])
        at = end
    return found


def ask(*calls):
    """The answers to the calls on one new object, one list for each call."""
    found = each(answers(in_one(calls)))
    if len(found) != len(calls):
        raise AssertionError(f"{len(calls)} calls, but {len(found)} answers")
    return found


def ask_behind(before, *calls):
    """The answers to the calls, on an object on which those before were called."""
    return ask(*before, *calls)[len(before):]


class Numbers:
    """Numbers in no plain order, the same ones each time."""

    def __init__(self, seed):
        self.state = seed

    def below(self, bound):
        self.state = (self.state * 6364136223846793005 + 1442695040888963407) % 2 ** 64
        return (self.state >> 33) % bound

    def one_of(self, choices):
        return choices[self.below(len(choices))]


def some_row(numbers):
    """How many windows, and persons: (minute of coming, minutes at each window)."""
    m = 1 + numbers.below(5)
    latest = numbers.one_of((1, 10, 40, 201))
    longest = numbers.one_of((2, 5, 20, 61))
    many = 1 + numbers.below(6)
    return m, [(numbers.below(latest), [numbers.below(longest) for window in range(m)]) for person in range(many)]


def calls_of(m, persons):
    return [start(m)] + [come(t, *l) for t, l in persons]


def places_of(m, persons):
    return [(i, j) for i in range(len(persons)) for j in range(m)]


def ways_to(first, person, window):
    """All ways from that person's first window to there, by trying."""
    if (person, window) == (first, 0):
        return [[(first, 0)]]
    found = []
    if person > first:
        found += ways_to(first, person - 1, window)
    if window > 0:
        found += ways_to(first, person, window - 1)
    return [steps + [(person, window)] for steps in found]


def length(persons, steps):
    return sum(persons[i][1][j] for i, j in steps)


def done_by_ways(persons, person, window):
    """The greatest of: when somebody comes, and a way from its first window to there."""
    return max(
        persons[first][0] + length(persons, steps)
        for first in range(person + 1)
        for steps in ways_to(first, person, window)
    )


def done_in_turn(persons, m):
    """When each is done at each window, from the document's words: by (person, window)."""
    ends = {}
    for i, (t, l) in enumerate(persons):
        for j in range(m):
            ready = ends[i, j - 1] if j else t
            ends[i, j] = max(ready, ends[i - 1, j] if i else ready) + l[j]
    return ends


def last_in_turn(persons, m):
    return max(done_in_turn(persons, m).values(), default=0)


def from_0(persons):
    """The same persons, were all there from minute 0 on."""
    return [(0, l) for t, l in persons]


def soonest_of_all(persons, m):
    """When the last one is done, and the order, for every order of all: the soonest, the first of those as soon."""
    lines = itertools.permutations(range(len(persons)))
    tried = [(last_in_turn([(0, persons[i][1]) for i in line], m), list(line)) for line in lines]
    soonest = min(late for late, line in tried)
    # Permutations of numbers in their order come with the lesser number first.
    return next([late] + line for late, line in tried if late == soonest)


def left_by_moving(persons, m, b):
    """When each leaves each window, if b may stand between two: all are moved on, minute by minute."""
    begun = {}
    left = {}
    places = [(i, j) for i in range(len(persons)) for j in range(m)]
    minute = 0
    while len(left) < len(places):
        while move_on(persons, m, b, minute, begun, left):
            pass
        for j in range(1, m):
            between = [i for i in range(len(persons)) if (i, j - 1) in left and (i, j) not in begun]
            if len(between) > b:
                raise AssertionError(f"{len(between)} stand between two windows, where {b} may")
        # In the minutes before the next one comes or is done nobody can move.
        coming = [t for t, l in persons]
        being_done = [begun[i, j] + persons[i][1][j] for i, j in begun]
        minute = min([later for later in coming + being_done if later > minute], default=minute)
    return left


def move_on(persons, m, b, minute, begun, left):
    """Let each begin and leave where it can in that minute: whether somebody could."""
    moved = False
    for i, (t, l) in enumerate(persons):
        for j in range(m):
            there = (i, j - 1) in left if j else t <= minute
            if (i, j) not in begun and there and (i == 0 or (i - 1, j) in left):
                begun[i, j] = minute
                moved = True
            if (i, j) in left or (i, j) not in begun or begun[i, j] + l[j] > minute:
                continue
            if j == m - 1 or i - (b + 1) < 0 or (i - (b + 1), j + 1) in left:
                left[i, j] = minute
                moved = True
    return moved


class Model:
    """The same calls, answered slowly and straight from the document's words."""

    def __init__(self):
        self.m = None
        self.persons = []

    def answer(self, call):
        number, given = call[0], call[1:]
        if number == 0:
            return self.start(*given)
        if self.m is None:
            return [-11]
        if number == 1:
            return self.come(given[0], list(given[2:]))
        if number == 11:
            return self.order(given[1:])
        names = {
            2: "leave", 3: "change", 4: "done", 5: "wait", 6: "last", 7: "way", 8: "critical", 9: "slack", 10: "waits",
            12: "best", 13: "turned", 14: "swap", 15: "blocked", 16: "leaves", 17: "rooms", 18: "person", 19: "idle",
            20: "state",
        }
        if number in (4, 5, 7, 9) and not self.place(*given):
            return [-2]
        return getattr(self, names[number])(*given)

    def place(self, i, j):
        return i < len(self.persons) and j < self.m

    def start(self, m):
        if m not in (1, 2, 3, 4, 5):
            return [-22]
        self.m = m
        self.persons = []
        return [0]

    def come(self, t, l):
        if t > 200 or len(l) != self.m or any(n > 60 for n in l):
            return [-22]
        if len(self.persons) == 6:
            return [-28]
        self.persons.append((t, l))
        return [len(self.persons) - 1]

    def leave(self, i):
        if i >= len(self.persons):
            return [-2]
        answer = self.last()
        del self.persons[i]
        return answer

    def change(self, i, j, n):
        if not self.place(i, j):
            return [-2]
        if n > 60:
            return [-22]
        took = self.persons[i][1][j]
        self.persons[i][1][j] = n
        return [took]

    def end(self, i, j):
        return done_by_ways(self.persons, i, j)

    def ready(self, i, j):
        return self.end(i, j - 1) if j else self.persons[i][0]

    def done(self, i, j):
        return [self.end(i, j), max(self.ready(i, j), self.end(i - 1, j) if i else 0)]

    def wait(self, i, j):
        return [self.done(i, j)[1] - self.ready(i, j)]

    def last(self):
        return [max([self.end(i, self.m - 1) for i in range(len(self.persons))], default=0)]

    def steps(self, i, j):
        if i and self.end(i - 1, j) >= self.ready(i, j) and self.end(i - 1, j) > 0:
            return self.steps(i - 1, j) + [i, j]
        return (self.steps(i, j - 1) if j else []) + [i, j]

    def way(self, i, j):
        steps = self.steps(i, j)
        return [len(steps) // 2] + steps

    def critical(self):
        if not self.persons:
            return [-6]
        late = self.last()[0]
        first = min(i for i in range(len(self.persons)) if self.end(i, self.m - 1) == late)
        return [late] + self.steps(first, self.m - 1)

    def slack(self, i, j):
        """By trying minute after minute how much longer it may take."""
        late = self.last()
        took = self.persons[i][1][j]
        while self.last() == late:
            self.persons[i][1][j] += 1
        more = self.persons[i][1][j] - 1 - took
        self.persons[i][1][j] = took
        return [more]

    def waits(self):
        waited = [sum(self.wait(i, j)[0] for i in range(len(self.persons))) for j in range(self.m)]
        return [sum(waited)] + waited

    def order(self, o):
        if len(o) != len(self.persons) or any(i not in o for i in range(len(self.persons))):
            return [-22]
        return [last_in_turn([(0, self.persons[i][1]) for i in o], self.m)]

    def best(self):
        return soonest_of_all(self.persons, self.m)

    def turned(self):
        other = [(0, l[::-1]) for t, l in self.persons[::-1]]
        return [last_in_turn(other, self.m), last_in_turn(from_0(self.persons), self.m)]

    def swap(self, j, k):
        if j >= self.m or k >= self.m:
            return [-2]
        places = [k if window == j else j if window == k else window for window in range(self.m)]
        return [last_in_turn([(t, [l[window] for window in places]) for t, l in self.persons], self.m)]

    def blocked(self, b):
        if b > 20:
            return [-22]
        late = max(left_by_moving(self.persons, self.m, b).values(), default=0)
        return [late, late - self.last()[0]]

    def leaves(self, b, i, j):
        if not self.place(i, j):
            return [-2]
        if b > 20:
            return [-22]
        return [left_by_moving(self.persons, self.m, b)[i, j]]

    def rooms(self):
        return [next(b for b in range(21) if self.blocked(b)[1] == 0)]

    def person(self, i):
        if i >= len(self.persons):
            return [-2]
        t, l = self.persons[i]
        return [t] + l

    def idle(self, j):
        if j >= self.m:
            return [-2]
        ends = done_in_turn(self.persons, self.m)
        served = [range(ends[i, j] - l[j], ends[i, j]) for i, (t, l) in enumerate(self.persons)]
        return [sum(not any(minute in taken for taken in served) for minute in range(self.last()[0]))]

    def state(self):
        return [len(self.persons), self.m] + self.last()
