"""What holds, a and c; and many calls behind one another, compared with the slow model."""

import unittest

from tests.helper import (
    BIG, Model, Numbers, ask, ask_behind, change, come, critical, done, done_by_ways, last, leave, length, slack,
    start, wait, waits, way,
)


def some_row(numbers):
    """How many windows, and persons: (minute of coming, minutes at each window)."""
    m = 1 + numbers.below(5)
    latest = numbers.one_of((1, 10, 40, 201))
    longest = numbers.one_of((2, 5, 20, 61))
    many = 1 + numbers.below(6)
    return m, [(numbers.below(latest), [numbers.below(longest) for window in range(m)]) for person in range(many)]


def calls_of(m, persons):
    return [start(m)] + [come(t, *l) for t, l in persons]


def places_of(m, persons):
    return [(i, j) for i in range(len(persons)) for j in range(m)]


def pairs(row):
    return list(zip(row[::2], row[1::2]))


class WhatHolds(unittest.TestCase):
    def rows(self, seed, many):
        numbers = Numbers(seed)
        for count in range(many):
            yield some_row(numbers)

    def test_done_is_the_greatest_over_all_ways(self):
        for m, persons in self.rows(1, 60):
            places = places_of(m, persons)
            told = ask_behind(calls_of(m, persons), *[done(i, j) for i, j in places])
            for (i, j), (end, begin) in zip(places, told):
                self.assertEqual(end, done_by_ways(persons, i, j), (persons, i, j))
                self.assertEqual(begin, end - persons[i][1][j])

    def test_the_way_that_is_answered_is_one_of_the_longest(self):
        for m, persons in self.rows(2, 60):
            places = places_of(m, persons)
            before = calls_of(m, persons)
            ends = ask_behind(before, *[done(i, j) for i, j in places])
            for place, end, told in zip(places, ends, ask_behind(before, *[way(i, j) for i, j in places])):
                steps = pairs(told[1:])
                self.assertEqual((told[0], steps[-1], steps[0][1]), (len(steps), place, 0))
                for (i, j), later in zip(steps, steps[1:]):
                    self.assertIn(later, ((i + 1, j), (i, j + 1)))
                self.assertEqual(persons[steps[0][0]][0] + length(persons, steps), end[0], (persons, place))

    def test_with_slack_the_last_is_not_later_and_a_minute_more_makes_it_later_by_one(self):
        tried = 0
        for m, persons in self.rows(3, 60):
            before = calls_of(m, persons)
            places = places_of(m, persons)
            late = ask_behind(before, last())[0][0]
            for (i, j), (more,) in zip(places, ask_behind(before, *[slack(i, j) for i, j in places])):
                longer = persons[i][1][j] + more
                if longer + 1 <= 60:
                    tried += 1
                    told = ask_behind(before, change(i, j, longer), last(), change(i, j, longer + 1), last())
                    self.assertEqual(told, [[persons[i][1][j]], [late], [longer], [late + 1]], (persons, i, j))
        self.assertGreater(tried, 300)

    def test_less_never_makes_later(self):
        for m, persons in self.rows(4, 40):
            before = calls_of(m, persons)
            late = ask_behind(before, last())[0][0]
            for i, j in places_of(m, persons):
                for less in {0, persons[i][1][j] // 2, max(0, persons[i][1][j] - 1)}:
                    self.assertLessEqual(ask_behind(before, change(i, j, less), last())[1][0], late)

    def test_waits_are_all_that_each_waits(self):
        for m, persons in self.rows(5, 40):
            before = calls_of(m, persons)
            waited = [[ask_behind(before, wait(i, j))[0][0] for i in range(len(persons))] for j in range(m)]
            told = [sum(row) for row in waited]
            self.assertEqual(ask_behind(before, waits())[0], [sum(told)] + told)


def some_call(numbers, m):
    """Any call of the stage, mostly one that isn't refused."""
    i = numbers.one_of((0, 0, 1, 1, 2, 3, 4, 5, 6, BIG))
    j = numbers.one_of((0, 0, 1, 1, 2, 3, 4, 5, BIG))
    kind = numbers.below(24)
    if kind < 8:
        t = numbers.one_of((0, 0, 3, 10, 30, 60, 200, 201))
        many = m if numbers.below(8) else numbers.below(7)
        return come(t, *[numbers.one_of((0, 0, 1, 1, 2, 3, 5, 8, 20, 60)) for window in range(many)])
    if kind < 10:
        return leave(i)
    if kind < 12:
        return change(i, j, numbers.one_of((0, 1, 2, 7, 30, 60, 61, BIG)))
    if kind < 15:
        return numbers.one_of((last, critical, waits))()
    if kind == 15 and numbers.below(4) == 0:
        return start(numbers.below(7))
    return numbers.one_of((done, wait, way, slack))(i, j)


class BehindOneAnother(unittest.TestCase):
    def test_like_the_model(self):
        numbers = Numbers(6)
        for count in range(60):
            model = Model()
            calls = [start(1 + numbers.below(5))] if numbers.below(5) else []
            expected = [model.answer(call) for call in calls]
            while len(calls) < 80:
                call = some_call(numbers, model.m or 2)
                calls.append(call)
                expected.append(model.answer(call))
            self.assertEqual(ask(*calls), expected)


if __name__ == "__main__":
    unittest.main()
