"""Point 1: start, come, leave, change."""

import unittest

from tests.helper import BIG, ask, ask_behind, change, come, critical, done, last, leave, start, waits, way

FULL_ROW = [start(1)] + [come(0, n) for n in range(1, 7)]


class Start(unittest.TestCase):
    def test_from_one_to_five_windows(self):
        for m in (1, 2, 3, 4, 5):
            self.assertEqual(ask(start(m), waits()), [[0], [0] * (m + 1)])

    def test_refused(self):
        for m in (0, 6, 7, 60, 2 ** 31, BIG):
            self.assertEqual(ask(start(m)), [[-22]])

    def test_nobody_is_there(self):
        self.assertEqual(ask_behind([start(2)], last(), critical(), waits(), leave(0)), [[0], [-6], [0, 0, 0], [-2]])

    def test_refused_on_a_started_one_changes_nothing(self):
        before = [start(2), come(7, 3, 4)]
        for m in (0, 6, BIG):
            told = ask_behind(before, start(m), done(0, 1), waits(), come(0, 1, 1), come(0, 1))
            self.assertEqual(told, [[-22], [14, 10], [0, 0, 0], [1], [-22]])

    def test_a_second_one_begins_anew(self):
        before = [start(2), come(7, 3, 4), come(0, 60, 60)]
        told = ask_behind(before, start(3), last(), critical(), waits(), done(0, 0), come(0, 1, 1), come(1, 1, 1, 1))
        self.assertEqual(told, [[0], [0], [-6], [0, 0, 0, 0], [-2], [-22], [0]])

    def test_a_second_one_with_as_many_windows_begins_anew_too(self):
        told = ask_behind([start(1), come(7, 3)], start(1), last(), leave(0), come(2, 5), last())
        self.assertEqual(told, [[0], [0], [-2], [0], [7]])

    def test_a_second_one_makes_room_for_six_again(self):
        told = ask_behind(FULL_ROW, start(1), *[come(0, 1)] * 7)
        self.assertEqual(told, [[0], [0], [1], [2], [3], [4], [5], [-28]])


class Come(unittest.TestCase):
    def test_numbers_in_their_order(self):
        told = ask_behind([start(2)], *[come(9 - n, n, n) for n in range(6)])
        self.assertEqual(told, [[0], [1], [2], [3], [4], [5]])

    def test_behind_the_others_even_if_it_comes_sooner(self):
        told = ask(start(1), come(9, 3), come(2, 4), done(0, 0), done(1, 0))
        self.assertEqual(told[3:], [[12, 9], [16, 12]])

    def test_the_seventh(self):
        self.assertEqual(ask_behind(FULL_ROW, come(0, 1), last()), [[-28], [21]])

    def test_the_seventh_when_it_is_wrong_too(self):
        told = ask_behind(FULL_ROW, come(201, 1), come(0, 61), come(0), come(0, 1, 1), come(200, 60))
        self.assertEqual(told, [[-22], [-22], [-22], [-22], [-28]])

    def test_again_once_one_of_six_has_left(self):
        told = ask_behind(FULL_ROW, leave(0), come(0, 9), come(0, 9), last())
        self.assertEqual(told, [[21], [5], [-28], [29]])

    def test_minute(self):
        for t, told in ((0, [0]), (199, [0]), (200, [0]), (201, [-22]), (2 ** 31, [-22]), (BIG, [-22])):
            self.assertEqual(ask(start(1), come(t, 5))[1], told)
        self.assertEqual(ask(start(1), come(200, 60), done(0, 0))[2], [260, 200])

    def test_minutes_at_a_window(self):
        for n, told in ((0, [0]), (59, [0]), (60, [0]), (61, [-22]), (BIG, [-22])):
            for l in ((n, 1, 1), (1, n, 1), (1, 1, n)):
                self.assertEqual(ask(start(3), come(0, *l))[1], told)

    def test_how_many_minutes(self):
        for m in (1, 2, 3, 4, 5):
            for many in (0, 1, 2, 3, 4, 5, 6, 59, 60):
                told = [0] if many == m else [-22]
                self.assertEqual(ask(start(m), come(0, *[1] * many))[1], told)

    def test_refused_ones_are_not_there(self):
        told = ask(start(2), come(201, 1, 1), come(0, 61, 1), come(0), come(0, 1), come(0, 1, 1, 1), critical(), come(1, 2, 3))
        self.assertEqual(told, [[0], [-22], [-22], [-22], [-22], [-22], [-6], [0]])


class Leave(unittest.TestCase):
    before = [start(2), come(0, 3, 2), come(0, 2, 4), come(1, 1, 1)]

    def test_when_the_last_was_done_with_it(self):
        for i in (0, 1, 2):
            self.assertEqual(ask_behind(self.before, leave(i))[0], [10])

    def test_it_is_as_if_it_had_not_come(self):
        comings = self.before[1:]
        for i in (0, 1, 2):
            stayed = [start(2)] + comings[:i] + comings[i + 1:]
            asked = [last(), waits(), critical(), done(0, 1), done(1, 0), done(1, 1), way(1, 1), done(2, 0)]
            self.assertEqual(ask_behind(self.before + [leave(i)], *asked), ask_behind(stayed, *asked))

    def test_those_behind_it_have_one_number_less(self):
        told = ask_behind(self.before, leave(0), done(0, 1), done(1, 1), done(2, 1), come(0, 1, 1))
        self.assertEqual(told, [[10], [6, 2], [7, 6], [-2], [2]])

    def test_nobody_such(self):
        for i in (3, 4, 6, BIG):
            self.assertEqual(ask_behind(self.before, leave(i), last()), [[-2], [10]])

    def test_one_behind_another(self):
        told = ask_behind(self.before, leave(2), leave(1), leave(0), leave(0), last(), critical())
        self.assertEqual(told, [[10], [9], [5], [-2], [0], [-6]])


class Change(unittest.TestCase):
    before = [start(2), come(0, 3, 2), come(0, 2, 4)]

    def test_how_many_it_took(self):
        told = ask_behind(self.before, change(1, 1, 10), change(1, 1, 0), change(1, 1, 7), change(0, 0, 1), last())
        self.assertEqual(told, [[4], [10], [0], [3], [10]])

    def test_only_there(self):
        told = ask_behind(self.before, change(0, 1, 9), done(0, 0), done(0, 1), done(1, 0), done(1, 1))
        self.assertEqual(told, [[2], [3, 0], [12, 3], [5, 3], [16, 12]])

    def test_minutes(self):
        for n, told in ((0, [[2], [3, 3]]), (60, [[2], [63, 3]]), (61, [[-22], [5, 3]]), (BIG, [[-22], [5, 3]])):
            self.assertEqual(ask_behind(self.before, change(0, 1, n), done(0, 1)), told)

    def test_no_such_person_or_window(self):
        for i, j in ((2, 0), (0, 2), (2, 2), (BIG, 0), (0, BIG), (BIG, BIG)):
            for n in (0, 60, 61, BIG):
                self.assertEqual(ask_behind(self.before, change(i, j, n), last()), [[-2], [9]])

    def test_two_with_the_same_minutes_are_two(self):
        told = ask(start(1), come(0, 5), come(0, 5), change(0, 0, 1), done(0, 0), done(1, 0))
        self.assertEqual(told[3:], [[5], [1, 0], [6, 1]])


if __name__ == "__main__":
    unittest.main()
