"""What holds, a to d; the corners; and many calls behind one another, compared with the slow model."""

import itertools
import unittest

from tests.helper import (
    BIG, Model, Numbers, ask, ask_behind, best, blocked, calls_of, change, come, critical, done, done_by_ways,
    done_in_turn, idle, last, leave, leaves, length, order, person, places_of, rooms, slack, some_row, start, state,
    swap, turned, wait, waits, way,
)


def pairs(row):
    return list(zip(row[::2], row[1::2]))


class WhatHolds(unittest.TestCase):
    def rows(self, seed, many):
        numbers = Numbers(seed)
        for count in range(many):
            yield some_row(numbers)

    def test_done_is_the_greatest_over_all_ways(self):
        for m, persons in self.rows(1, 60):
            places = places_of(m, persons)
            told = ask_behind(calls_of(m, persons), *[done(i, j) for i, j in places])
            for (i, j), (end, begin) in zip(places, told):
                self.assertEqual(end, done_by_ways(persons, i, j), (persons, i, j))
                self.assertEqual(begin, end - persons[i][1][j])

    def test_the_way_that_is_answered_is_one_of_the_longest(self):
        for m, persons in self.rows(2, 60):
            places = places_of(m, persons)
            before = calls_of(m, persons)
            ends = ask_behind(before, *[done(i, j) for i, j in places])
            for place, end, told in zip(places, ends, ask_behind(before, *[way(i, j) for i, j in places])):
                steps = pairs(told[1:])
                self.assertEqual((told[0], steps[-1], steps[0][1]), (len(steps), place, 0))
                for (i, j), later in zip(steps, steps[1:]):
                    self.assertIn(later, ((i + 1, j), (i, j + 1)))
                self.assertEqual(persons[steps[0][0]][0] + length(persons, steps), end[0], (persons, place))

    def test_with_slack_the_last_is_not_later_and_a_minute_more_makes_it_later_by_one(self):
        tried = 0
        for m, persons in self.rows(3, 60):
            before = calls_of(m, persons)
            places = places_of(m, persons)
            late = ask_behind(before, last())[0][0]
            for (i, j), (more,) in zip(places, ask_behind(before, *[slack(i, j) for i, j in places])):
                longer = persons[i][1][j] + more
                if longer + 1 <= 60:
                    tried += 1
                    told = ask_behind(before, change(i, j, longer), last(), change(i, j, longer + 1), last())
                    self.assertEqual(told, [[persons[i][1][j]], [late], [longer], [late + 1]], (persons, i, j))
        self.assertGreater(tried, 300)

    def test_less_never_makes_later(self):
        for m, persons in self.rows(4, 40):
            before = calls_of(m, persons)
            late = ask_behind(before, last())[0][0]
            for i, j in places_of(m, persons):
                for less in {0, persons[i][1][j] // 2, max(0, persons[i][1][j] - 1)}:
                    self.assertLessEqual(ask_behind(before, change(i, j, less), last())[1][0], late)

    def test_done_in_turn_is_the_greatest_over_all_ways_too(self):
        for m, persons in self.rows(7, 30):
            for place, end in done_in_turn(persons, m).items():
                self.assertEqual(end, done_by_ways(persons, *place))

    def test_turned_round_it_is_as_long(self):
        for m, persons in self.rows(8, 200):
            other = [(0, l[::-1]) for t, l in persons[::-1]]
            own = [(0, l) for t, l in persons]
            told = ask_behind(calls_of(m, persons), turned(), order(*range(len(persons))))
            self.assertEqual(told[0], [told[1][0]] * 2)
            self.assertEqual([ask_behind(calls_of(m, row), last())[0][0] for row in (other, own)], told[0])

    def test_windows_in_whatever_order_where_all_take_as_long(self):
        for m, persons in self.rows(9, 60):
            alike = [(t, persons[0][1]) for t, l in persons]
            before = calls_of(m, alike)
            late = ask_behind(before, last())[0]
            pairs_of = [(j, k) for j in range(m) for k in range(m)]
            self.assertEqual(ask_behind(before, *[swap(j, k) for j, k in pairs_of]), [late] * len(pairs_of))
            for places in itertools.islice(itertools.permutations(range(m)), 0, None, 7):
                moved = [(t, [l[window] for window in places]) for t, l in alike]
                self.assertEqual(ask_behind(calls_of(m, moved), last()), [late])

    def test_swapped_it_is_as_if_they_had_come_so(self):
        for m, persons in self.rows(10, 60):
            for j, k in ((0, m - 1), (m // 2, 0)):
                places = list(range(m))
                places[j], places[k] = k, j
                moved = [(t, [l[window] for window in places]) for t, l in persons]
                self.assertEqual(ask_behind(calls_of(m, persons), swap(j, k)), ask_behind(calls_of(m, moved), last()))

    def test_a_room_more_never_makes_later(self):
        for m, persons in self.rows(11, 120):
            late, *told = ask_behind(calls_of(m, persons), last(), *[blocked(b) for b in range(21)])
            self.assertEqual(told, sorted(told, reverse=True))
            self.assertEqual(told[max(0, len(persons) - 1):], [late + [0]] * (21 - max(0, len(persons) - 1)))
            for end, later in told:
                self.assertEqual(end - later, late[0])

    def test_a_room_more_never_makes_one_leave_later(self):
        for m, persons in self.rows(12, 40):
            for i, j in places_of(m, persons):
                told = ask_behind(calls_of(m, persons), done(i, j), *[leaves(b, i, j) for b in range(7)])
                self.assertEqual(told[1:], sorted(told[1:], reverse=True))
                self.assertEqual(told[-1], told[0][:1])

    def test_less_never_makes_later_with_little_room_either(self):
        for m, persons in self.rows(13, 30):
            before = calls_of(m, persons)
            asked = [blocked(0), blocked(1), order(*range(len(persons))), best()]
            late = ask_behind(before, *asked)
            for i, j in places_of(m, persons):
                told = ask_behind(before, change(i, j, persons[i][1][j] // 2), *asked)[1:]
                for sooner, later in zip(told, late):
                    self.assertLessEqual(sooner[0], later[0])

    def test_rooms_are_enough_and_one_less_is_not(self):
        for m, persons in self.rows(14, 120):
            before = calls_of(m, persons)
            enough = ask_behind(before, rooms())[0][0]
            self.assertEqual(ask_behind(before, blocked(enough))[0][1], 0)
            if enough:
                self.assertGreater(ask_behind(before, blocked(enough - 1))[0][1], 0)

    def test_by_no_other_order_is_the_last_one_done_sooner(self):
        for m, persons in self.rows(15, 40):
            before = calls_of(m, persons[:5])
            (late, *line), = ask_behind(before, best())
            lines = list(itertools.permutations(range(len(persons[:5]))))
            told = [end for (end,) in ask_behind(before, *[order(*other) for other in lines])]
            self.assertEqual(min(told), late)
            # All before it in the lesser number's order are later.
            self.assertEqual(lines[told.index(late)], tuple(line))

    def test_waits_are_all_that_each_waits(self):
        for m, persons in self.rows(5, 40):
            before = calls_of(m, persons)
            waited = [[ask_behind(before, wait(i, j))[0][0] for i in range(len(persons))] for j in range(m)]
            told = [sum(row) for row in waited]
            self.assertEqual(ask_behind(before, waits())[0], [sum(told)] + told)


def some_call(numbers, m):
    """Any call of the stage, mostly one that isn't refused."""
    i = numbers.one_of((0, 0, 1, 1, 2, 3, 4, 5, 6, BIG))
    j = numbers.one_of((0, 0, 1, 1, 2, 3, 4, 5, BIG))
    kind = numbers.below(36)
    if kind < 8:
        t = numbers.one_of((0, 0, 3, 10, 30, 60, 200, 201))
        many = m if numbers.below(8) else numbers.below(7)
        return come(t, *[numbers.one_of((0, 0, 1, 1, 2, 3, 5, 8, 20, 60)) for window in range(many)])
    if kind < 10:
        return leave(i)
    if kind < 12:
        return change(i, j, numbers.one_of((0, 1, 2, 7, 30, 60, 61, BIG)))
    if kind < 15:
        return numbers.one_of((last, critical, waits))()
    if kind == 15 and numbers.below(4) == 0:
        return start(numbers.below(7))
    if kind < 24:
        return numbers.one_of((done, wait, way, slack))(i, j)
    return some_call_from_order_on(numbers, i, j)


def some_call_from_order_on(numbers, i, j):
    kind = numbers.below(10)
    b = numbers.one_of((0, 0, 0, 1, 1, 2, 3, 6, 20, 21, BIG))
    if kind < 2:
        line = list(range(numbers.below(7)))
        for count in range(numbers.below(4)):
            if line:
                line.append(line.pop(numbers.below(len(line))))
        return order(*line, *[numbers.below(9)] * (numbers.below(9) == 0))
    if kind < 5:
        return numbers.one_of((best, turned, rooms, state))()
    if kind < 8:
        return numbers.one_of((swap(j, numbers.below(6)), blocked(b), leaves(b, i, j)))
    return numbers.one_of((person(i), idle(j)))


class Corners(unittest.TestCase):
    """The document's corners, for the calls from order on; each worked out by hand."""

    def test_one_window(self):
        before = [start(1), come(2, 3), come(0, 4), come(1, 5)]
        told = ask_behind(
            before, order(2, 0, 1), best(), turned(), swap(0, 0), blocked(0), leaves(0, 1, 0), rooms(), person(0),
            idle(0), state(),
        )
        self.assertEqual(told, [[12], [12, 0, 1, 2], [12, 12], [14], [14, 0], [9], [0], [2, 3], [2], [3, 1, 14]])

    def test_one_person(self):
        before = [start(3), come(7, 3, 0, 4)]
        told = ask_behind(
            before, order(0), best(), turned(), swap(0, 2), blocked(0), leaves(0, 0, 1), rooms(), person(0), idle(0),
            idle(1), idle(2), state(),
        )
        expected = [[7], [7, 0], [7, 7], [14], [14, 0], [10], [0], [7, 3, 0, 4], [11], [14], [10], [1, 3, 14]]
        self.assertEqual(told, expected)

    def test_minutes_of_0(self):
        before = [start(2), come(0, 0, 0), come(0, 0, 0)]
        told = ask_behind(
            before, order(1, 0), best(), turned(), swap(0, 1), blocked(0), leaves(0, 1, 1), rooms(), person(1), idle(0),
            state(),
        )
        self.assertEqual(told, [[0], [0, 0, 1], [0, 0], [0], [0, 0], [0], [0], [0, 0, 0], [0], [2, 2, 0]])

    def test_one_who_takes_0_minutes_stays_all_the_same(self):
        told = ask(start(2), come(0, 0, 9), come(0, 0, 0), come(0, 5, 0), leaves(0, 1, 0), leaves(0, 2, 0), blocked(0),
                   blocked(1), rooms())
        self.assertEqual(told[4:], [[9], [14], [14, 5], [9, 0], [1]])

    def test_one_who_comes_when_all_others_are_done(self):
        before = [start(2), come(0, 3, 2), come(5, 1, 1), come(50, 4, 4)]
        told = ask_behind(
            before, order(0, 1, 2), order(2, 1, 0), best(), turned(), swap(0, 1), blocked(0), leaves(0, 2, 0), rooms(),
            idle(0), idle(1), state(),
        )
        expected = [[12], [11], [11, 1, 2, 0], [12, 12], [58], [58, 0], [54], [0], [50], [51], [3, 2, 58]]
        self.assertEqual(told, expected)

    def test_two_ways_as_long(self):
        before = [start(2), come(0, 2, 3), come(0, 3, 1)]
        told = ask_behind(before, order(0, 1), order(1, 0), best(), turned(), swap(0, 1), blocked(0), rooms(), idle(1))
        self.assertEqual(told, [[6], [8], [6, 0, 1], [6, 6], [8], [6, 0], [0], [2]])

    def test_with_0_between(self):
        told = ask(start(3), come(0, 1, 9, 1), come(0, 1, 1, 1), come(0, 9, 1, 1), blocked(0), blocked(1),
                   *[leaves(0, i, j) for i in range(3) for j in range(3)], rooms())
        self.assertEqual(told[4:6], [[21, 8], [13, 0]])
        self.assertEqual(told[6:], [[1], [10], [11], [10], [11], [12], [19], [20], [21], [1]])

    def test_a_window_at_which_nobody_waits(self):
        before = [start(2), come(0, 5, 2), come(0, 5, 1)]
        told = ask_behind(before, waits(), blocked(0), rooms(), idle(0), idle(1), best(), leaves(0, 1, 0))
        self.assertEqual(told, [[5, 5, 0], [11, 0], [0], [1], [8], [11, 0, 1], [10]])


class BehindOneAnother(unittest.TestCase):
    def test_like_the_model(self):
        numbers = Numbers(6)
        for count in range(60):
            model = Model()
            calls = [start(1 + numbers.below(5))] if numbers.below(5) else []
            expected = [model.answer(call) for call in calls]
            while len(calls) < 80:
                call = some_call(numbers, model.m or 2)
                calls.append(call)
                expected.append(model.answer(call))
            self.assertEqual(ask(*calls), expected)


if __name__ == "__main__":
    unittest.main()
