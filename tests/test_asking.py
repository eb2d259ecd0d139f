"""Points 2 and 3, as far as done, wait, last, way, critical, waits and slack go; and the corners."""

import unittest

from tests.helper import BIG, ask, ask_behind, change, come, critical, done, last, leave, slack, start, wait, waits, way

# Done:   3 5 / 5 9 / 6 10. Begun: 0 3 / 3 5 / 5 9.
THREE = [start(2), come(0, 3, 2), come(0, 2, 4), come(1, 1, 1)]
PLACES = [(i, j) for i in range(3) for j in range(2)]


class Times(unittest.TestCase):
    def test_done(self):
        told = ask_behind(THREE, *[done(i, j) for i, j in PLACES])
        self.assertEqual(told, [[3, 0], [5, 3], [5, 3], [9, 5], [6, 5], [10, 9]])

    def test_wait(self):
        told = ask_behind(THREE, *[wait(i, j) for i, j in PLACES])
        self.assertEqual(told, [[0], [0], [3], [0], [4], [3]])

    def test_waits(self):
        self.assertEqual(ask_behind(THREE, waits()), [[10, 7, 3]])

    def test_last(self):
        for many, told in ((1, 0), (2, 5), (3, 9), (4, 10)):
            self.assertEqual(ask_behind(THREE[:many], last()), [[told]])

    def test_one_who_comes_late_waits_from_then_on(self):
        told = ask(start(1), come(10, 20), come(25, 5), wait(0, 0), wait(1, 0), done(1, 0), waits())
        self.assertEqual(told[3:], [[0], [5], [35, 30], [5, 5]])

    def test_five_windows_and_six_persons(self):
        before = [start(5)] + [come(0, 1, 1, 1, 1, 1)] * 6
        told = ask_behind(before, last(), done(5, 0), done(5, 4), waits(), critical())
        self.assertEqual(told[:4], [[10], [6, 5], [10, 9], [15, 15, 0, 0, 0, 0]])
        self.assertEqual(told[4], [10, 0, 0, 0, 1, 0, 2, 0, 3, 0, 4, 1, 4, 2, 4, 3, 4, 4, 4, 5, 4])

    def test_as_late_as_can_be(self):
        before = [start(5)] + [come(200, 60, 60, 60, 60, 60)] * 6
        self.assertEqual(ask_behind(before, last(), wait(5, 0), done(5, 4)), [[800], [300], [800, 740]])

    def test_asking_changes_nothing(self):
        asked = [done(2, 1), wait(2, 1), last(), way(2, 1), critical(), slack(2, 0), waits()]
        told = ask_behind(THREE, *asked, *asked)
        self.assertEqual(told[:7], told[7:])


class Way(unittest.TestCase):
    def test_way(self):
        told = ask_behind(THREE, *[way(i, j) for i, j in PLACES])
        self.assertEqual(told, [
            [1, 0, 0],
            [2, 0, 0, 0, 1],
            [2, 0, 0, 1, 0],
            [3, 0, 0, 0, 1, 1, 1],
            [3, 0, 0, 1, 0, 2, 0],
            [4, 0, 0, 0, 1, 1, 1, 2, 1],
        ])

    def test_over_the_window_before_if_the_one_before_is_done_sooner(self):
        self.assertEqual(ask(start(2), come(0, 3, 2), come(0, 3, 4), way(1, 1))[3], [3, 0, 0, 1, 0, 1, 1])

    def test_first_window_at_the_minute_one_comes(self):
        for t, told in ((4, [2, 0, 0, 1, 0]), (5, [2, 0, 0, 1, 0]), (6, [1, 1, 0])):
            self.assertEqual(ask(start(1), come(0, 5), come(t, 2), way(1, 0))[3], told)

    def test_not_over_one_who_is_done_at_minute_0(self):
        before = [start(2), come(0, 0, 0), come(0, 0, 4), come(0, 0, 0)]
        told = ask_behind(before, way(1, 0), way(1, 1), way(2, 0), way(2, 1), critical())
        self.assertEqual(told, [[1, 1, 0], [2, 1, 0, 1, 1], [1, 2, 0], [3, 1, 0, 1, 1, 2, 1], [4, 1, 0, 1, 1]])

    def test_over_one_who_takes_0_minutes_but_is_done_later(self):
        self.assertEqual(ask(start(1), come(1, 0), come(1, 3), way(1, 0))[3], [2, 0, 0, 1, 0])
        self.assertEqual(ask(start(1), come(1, 0), come(0, 3), way(1, 0))[3], [2, 0, 0, 1, 0])

    def test_critical(self):
        self.assertEqual(ask_behind(THREE, critical()), [[10, 0, 0, 0, 1, 1, 1, 2, 1]])

    def test_critical_to_the_first_that_is_done_so_late(self):
        told = ask(start(1), come(0, 5), come(0, 0), come(0, 0), critical(), way(2, 0))
        self.assertEqual(told[4:], [[5, 0, 0], [3, 0, 0, 1, 0, 2, 0]])

    def test_critical_if_all_is_done_at_minute_0(self):
        self.assertEqual(ask(start(2), come(0, 0, 0), come(0, 0, 0), critical())[3], [0, 0, 0, 0, 1])

    def test_critical_if_nobody_is_there(self):
        self.assertEqual(ask(start(3), critical(), come(0, 1, 1, 1), leave(0), critical()), [[0], [-6], [0], [3], [-6]])


class Slack(unittest.TestCase):
    def test_slack(self):
        told = ask_behind(THREE, *[slack(i, j) for i, j in PLACES])
        self.assertEqual(told, [[0], [0], [0], [0], [3], [0]])

    def test_beside_the_longest_way(self):
        # The longest way is 0 0, 0 1, 0 2, 1 2: 1 + 9 + 1 + 2.
        before = [start(3), come(0, 1, 9, 1), come(0, 2, 0, 2)]
        told = ask_behind(before, *[slack(i, j) for i in range(2) for j in range(3)])
        self.assertEqual(told, [[0], [0], [0], [8], [1], [0]])

    def test_before_one_who_comes_late(self):
        told = ask(start(2), come(0, 5, 5), come(100, 2, 3), slack(0, 0), slack(0, 1), slack(1, 0), slack(1, 1))
        self.assertEqual(told[3:], [[92], [92], [0], [0]])

    def test_above_sixty(self):
        told = ask(start(1), come(0, 60), come(200, 60), slack(0, 0), slack(1, 0))
        self.assertEqual(told[3:], [[140], [0]])

    def test_minutes_not_changed_by_asking(self):
        told = ask(start(1), come(0, 5), come(9, 1), slack(0, 0), change(0, 0, 9), slack(0, 0), last())
        self.assertEqual(told[3:], [[4], [5], [0], [10]])


class Refused(unittest.TestCase):
    def test_no_such_person_or_window(self):
        for call in (done, wait, way, slack):
            for i, j in ((3, 0), (0, 2), (3, 2), (6, 0), (0, 5), (BIG, 0), (0, BIG), (BIG, BIG)):
                self.assertEqual(ask_behind(THREE, call(i, j), last()), [[-2], [10]])

    def test_nobody_there(self):
        for call in (done, wait, way, slack):
            self.assertEqual(ask(start(5), call(0, 0)), [[0], [-2]])

    def test_one_who_left(self):
        for call in (done, wait, way, slack):
            self.assertEqual(ask_behind(THREE, leave(0), call(2, 0))[1], [-2])


class Corners(unittest.TestCase):
    def test_one_window(self):
        before = [start(1), come(2, 3), come(0, 4), come(1, 5)]
        told = ask_behind(before, done(2, 0), wait(1, 0), waits(), way(2, 0), critical(), slack(0, 0))
        self.assertEqual(told, [[14, 9], [5], [13, 13], [3, 0, 0, 1, 0, 2, 0], [14, 0, 0, 1, 0, 2, 0], [0]])

    def test_one_person(self):
        before = [start(3), come(7, 3, 0, 4)]
        told = ask_behind(before, last(), waits(), way(0, 2), critical(), slack(0, 1), done(0, 1), leave(0))
        steps = [0, 0, 0, 1, 0, 2]
        self.assertEqual(told, [[14], [0, 0, 0, 0], [3] + steps, [14] + steps, [0], [10, 10], [14]])

    def test_minutes_of_0(self):
        before = [start(2), come(0, 0, 0), come(0, 0, 0)]
        told = ask_behind(before, last(), done(1, 1), wait(1, 1), waits(), way(1, 1), slack(0, 0), slack(1, 1))
        self.assertEqual(told, [[0], [0, 0], [0], [0, 0, 0], [2, 1, 0, 1, 1], [0], [0]])

    def test_one_who_comes_when_all_others_are_done(self):
        before = [start(2), come(0, 3, 2), come(5, 1, 1), come(50, 4, 4)]
        told = ask_behind(before, done(2, 0), wait(2, 0), wait(2, 1), way(2, 1), critical(), slack(1, 0), leave(2), last())
        steps = [2, 0, 2, 1]
        self.assertEqual(told, [[54, 50], [0], [0], [2] + steps, [58] + steps, [44], [58], [7]])

    def test_two_ways_as_long(self):
        before = [start(2), come(0, 2, 3), come(0, 3, 1)]
        told = ask_behind(before, way(1, 1), critical(), slack(0, 1), slack(1, 0))
        steps = [0, 0, 0, 1, 1, 1]
        self.assertEqual(told, [[3] + steps, [6] + steps, [0], [0]])

    def test_a_window_at_which_nobody_waits(self):
        told = ask(start(2), come(0, 5, 2), come(0, 5, 1), waits(), wait(1, 0), wait(1, 1))
        self.assertEqual(told[3:], [[5, 5, 0], [5], [0]])

    def test_nobody_there(self):
        for m in (1, 2, 3, 4, 5):
            self.assertEqual(ask(start(m), last(), critical(), waits()), [[0], [0], [-6], [0] * (m + 1)])


if __name__ == "__main__":
    unittest.main()
