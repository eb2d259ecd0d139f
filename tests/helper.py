"""What the tests share: calls as rows of numbers, answers call by call, and a slow model to compare with."""

from windowrow.windows import answers

BIG = 4294967295


def start(m):
    return [0, m]


def come(t, *l):
    return [1, t, len(l), *l]


def leave(i):
    return [2, i]


def change(i, j, n):
    return [3, i, j, n]


def done(i, j):
    return [4, i, j]


def wait(i, j):
    return [5, i, j]


def last():
    return [6]


def way(i, j):
    return [7, i, j]


def critical():
    return [8]


def slack(i, j):
    return [9, i, j]


def waits():
    return [10]


def order(*o):
    return [11, len(o), *o]


# One call of each that is only read past as yet. The numbers in them are calls'
# numbers too, so that whoever reads one number too few or too many goes astray.
LATER = {
    "order": order(0, 1, 2),
    "order of none": order(),
    "order of sixty": order(*[0] * 60),
    "best": [12],
    "turned": [13],
    "swap": [14, 2, 2],
    "blocked": [15, 3],
    "leaves": [16, 2, 2, 2],
    "rooms": [17],
    "person": [18, 2],
    "idle": [19, 3],
    "state": [20],
}


def in_one(calls):
    """The calls as the one list that is handed in."""
    return [number for call in calls for number in call]


def each(told):
    """The answers call by call."""
    found = []
    at = 0
    while at < len(told):
        end = at + 1 + told[at]
        if end > len(told):
            raise AssertionError("an answer is shorter than its count says")
        found.append(told[at + 1:end])
        at = end
    return found


def ask(*calls):
    """The answers to the calls on one new object, one list for each call."""
    found = each(answers(in_one(calls)))
    if len(found) != len(calls):
        raise AssertionError(f"{len(calls)} calls, but {len(found)} answers")
    return found


def ask_behind(before, *calls):
    """The answers to the calls, on an object on which those before were called."""
    return ask(*before, *calls)[len(before):]


class Numbers:
    """Numbers in no plain order, the same ones each time."""

    def __init__(self, seed):
        self.state = seed

    def below(self, bound):
        self.state = (self.state * 6364136223846793005 + 1442695040888963407) % 2 ** 64
        return (self.state >> 33) % bound

    def one_of(self, choices):
        return choices[self.below(len(choices))]


def ways_to(first, person, window):
    """All ways from that person's first window to there, by trying."""
    if (person, window) == (first, 0):
        return [[(first, 0)]]
    found = []
    if person > first:
        found += ways_to(first, person - 1, window)
    if window > 0:
        found += ways_to(first, person, window - 1)
    return [steps + [(person, window)] for steps in found]


def length(persons, steps):
    return sum(persons[i][1][j] for i, j in steps)


def done_by_ways(persons, person, window):
    """The greatest of: when somebody comes, and a way from its first window to there."""
    return max(
        persons[first][0] + length(persons, steps)
        for first in range(person + 1)
        for steps in ways_to(first, person, window)
    )


class Model:
    """The same calls, answered slowly and straight from the document's words."""

    def __init__(self):
        self.m = None
        self.persons = []

    def answer(self, call):
        number, given = call[0], call[1:]
        if number == 0:
            return self.start(*given)
        if self.m is None:
            return [-11]
        if number == 1:
            return self.come(given[0], list(given[2:]))
        if number in (2, 3):
            return (self.leave if number == 2 else self.change)(*given)
        if number in (6, 8, 10):
            return {6: self.last, 8: self.critical, 10: self.waits}[number]()
        i, j = given
        if i >= len(self.persons) or j >= self.m:
            return [-2]
        return {4: self.done, 5: self.wait, 7: self.way, 9: self.slack}[number](i, j)

    def start(self, m):
        if m not in (1, 2, 3, 4, 5):
            return [-22]
        self.m = m
        self.persons = []
        return [0]

    def come(self, t, l):
        if t > 200 or len(l) != self.m or any(n > 60 for n in l):
            return [-22]
        if len(self.persons) == 6:
            return [-28]
        self.persons.append((t, l))
        return [len(self.persons) - 1]

    def leave(self, i):
        if i >= len(self.persons):
            return [-2]
        answer = self.last()
        del self.persons[i]
        return answer

    def change(self, i, j, n):
        if i >= len(self.persons) or j >= self.m:
            return [-2]
        if n > 60:
            return [-22]
        took = self.persons[i][1][j]
        self.persons[i][1][j] = n
        return [took]

    def end(self, i, j):
        return done_by_ways(self.persons, i, j)

    def ready(self, i, j):
        return self.end(i, j - 1) if j else self.persons[i][0]

    def done(self, i, j):
        return [self.end(i, j), max(self.ready(i, j), self.end(i - 1, j) if i else 0)]

    def wait(self, i, j):
        return [self.done(i, j)[1] - self.ready(i, j)]

    def last(self):
        return [max([self.end(i, self.m - 1) for i in range(len(self.persons))], default=0)]

    def steps(self, i, j):
        if i and self.end(i - 1, j) >= self.ready(i, j) and self.end(i - 1, j) > 0:
            return self.steps(i - 1, j) + [i, j]
        return (self.steps(i, j - 1) if j else []) + [i, j]

    def way(self, i, j):
        steps = self.steps(i, j)
        return [len(steps) // 2] + steps

    def critical(self):
        if not self.persons:
            return [-6]
        late = self.last()[0]
        first = min(i for i in range(len(self.persons)) if self.end(i, self.m - 1) == late)
        return [late] + self.steps(first, self.m - 1)

    def slack(self, i, j):
        """By trying minute after minute how much longer it may take."""
        late = self.last()
        took = self.persons[i][1][j]
        while self.last() == late:
            self.persons[i][1][j] += 1
        more = self.persons[i][1][j] - 1 - took
        self.persons[i][1][j] = took
        return [more]

    def waits(self):
        waited = [sum(self.wait(i, j)[0] for i in range(len(self.persons))) for j in range(self.m)]
        return [sum(waited)] + waited
