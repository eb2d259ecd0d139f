"""Points 2 and 5: idle; person and state."""

import unittest

from tests.helper import (
    BIG, Numbers, ask, ask_behind, calls_of, change, come, done, idle, last, leave, person, some_row, start, state,
)

# Done: 3 5 / 5 9 / 6 10.
THREE = [start(2), come(0, 3, 2), come(0, 2, 4), come(1, 1, 1)]
SIX = [start(5)] + [come(i * 3, i, 1, 60, 0, 2) for i in range(6)]


class Idle(unittest.TestCase):
    def test_at_each_window(self):
        self.assertEqual(ask_behind(THREE, idle(0), idle(1)), [[4], [3]])

    def test_before_somebody_comes(self):
        self.assertEqual(ask(start(1), come(5, 2), come(20, 3), idle(0))[3], [18])

    def test_behind_the_last_at_a_window_till_all_are_done(self):
        self.assertEqual(ask(start(3), come(0, 1, 20, 0), idle(0), idle(1), idle(2))[2:], [[20], [1], [21]])

    def test_never_idle(self):
        self.assertEqual(ask(start(1), come(0, 5), come(2, 3), idle(0))[3], [0])

    def test_six_persons_and_five_windows(self):
        # Served one behind another at window 2 from minute 1 on, then 2 minutes more.
        self.assertEqual(ask_behind(SIX, last(), *[idle(j) for j in range(6)]),
                         [[363], [363 - 15], [363 - 6], [3], [363], [363 - 12], [-2]])

    def test_no_such_window(self):
        for j in (2, 3, 5, BIG):
            self.assertEqual(ask_behind(THREE, idle(j), last()), [[-2], [10]])

    def test_nobody_there(self):
        for m in (1, 2, 3, 4, 5):
            told = ask(start(m), *[idle(j) for j in range(m)], idle(m), idle(BIG))
            self.assertEqual(told, [[0]] + [[0]] * m + [[-2], [-2]])

    def test_behind_leave_change_come_and_a_second_start(self):
        told = ask_behind(THREE, leave(0), idle(0), change(0, 1, 0), idle(1), come(0, 9, 1), idle(0), start(1), idle(0),
                          idle(1))
        self.assertEqual(told, [[10], [4], [4], [3], [2], [1], [0], [0], [-2]])

    def test_minute_by_minute(self):
        numbers = Numbers(31)
        for count in range(60):
            m, persons = some_row(numbers)
            before = calls_of(m, persons)
            late = ask_behind(before, last())[0][0]
            for j in range(m):
                served = ask_behind(before, *[done(i, j) for i in range(len(persons))])
                minutes = [minute for minute in range(late) if not any(begin <= minute < end for end, begin in served)]
                self.assertEqual(ask_behind(before, idle(j)), [[len(minutes)]], (persons, j))


class Person(unittest.TestCase):
    def test_when_it_comes_and_its_minutes(self):
        self.assertEqual(ask_behind(THREE, person(0), person(1), person(2)), [[0, 3, 2], [0, 2, 4], [1, 1, 1]])

    def test_edges(self):
        told = ask(start(2), come(200, 60, 0), come(0, 0, 60), person(0), person(1))
        self.assertEqual(told[3:], [[200, 60, 0], [0, 0, 60]])

    def test_six_persons_and_five_windows(self):
        told = ask_behind(SIX, *[person(i) for i in range(7)])
        self.assertEqual(told, [[i * 3, i, 1, 60, 0, 2] for i in range(6)] + [[-2]])

    def test_no_such_person(self):
        for i in (3, 4, 6, BIG):
            self.assertEqual(ask_behind(THREE, person(i), last()), [[-2], [10]])

    def test_nobody_there(self):
        for m in (1, 2, 3, 4, 5):
            self.assertEqual(ask(start(m), person(0), person(BIG)), [[0], [-2], [-2]])

    def test_behind_leave_change_come_and_a_second_start(self):
        told = ask_behind(
            THREE, leave(0), person(0), person(2), change(1, 0, 9), person(1), come(7, 8, 9), person(2), person(1),
            start(1), person(0), come(5, 6), person(0),
        )
        self.assertEqual(told[:8], [[10], [0, 2, 4], [-2], [1], [1, 9, 1], [2], [7, 8, 9], [1, 9, 1]])
        self.assertEqual(told[8:], [[0], [-2], [0], [5, 6]])

    def test_refused_ones_leave_it_as_it_was(self):
        told = ask_behind(
            THREE, change(0, 0, 61), change(0, 2, 1), come(201, 1, 1), leave(3), start(6), person(0), person(3),
        )
        self.assertEqual(told[5:], [[0, 3, 2], [-2]])


class State(unittest.TestCase):
    def test_behind_each_change(self):
        told = ask(start(2), state(), come(0, 3, 2), state(), come(0, 2, 4), state(), come(1, 1, 1), state())
        self.assertEqual(told[1::2], [[0, 2, 0], [1, 2, 5], [2, 2, 9], [3, 2, 10]])
        told = ask_behind(THREE, change(0, 0, 60), state(), leave(0), state(), start(4), state(), start(6), state())
        self.assertEqual(told[1::2], [[3, 2, 67], [2, 2, 7], [0, 4, 0], [0, 4, 0]])

    def test_six_persons_and_five_windows(self):
        self.assertEqual(ask_behind(SIX, state(), come(0, 1, 1, 1, 1, 1), state()), [[6, 5, 363], [-28], [6, 5, 363]])

    def test_nobody_there(self):
        for m in (1, 2, 3, 4, 5):
            self.assertEqual(ask(start(m), state()), [[0], [0, m, 0]])


if __name__ == "__main__":
    unittest.main()
