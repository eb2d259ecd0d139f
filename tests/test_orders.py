"""Point 3: order, best, turned, swap."""

import itertools
import unittest

from tests.helper import (
    BIG, Numbers, ask, ask_behind, best, blocked, calls_of, change, come, critical, done, idle, last, last_in_turn,
    leave, order, person, rooms, slack, soonest_of_all, start, state, swap, turned, waits, way,
)

# From minute 0 on: 10 in the orders 0 1 2, 0 2 1 and 2 0 1; 9 in 1 0 2, 1 2 0 and 2 1 0.
THREE = [start(2), come(0, 3, 2), come(0, 2, 4), come(1, 1, 1)]

SIX = [
    start(5), come(0, 3, 9, 4, 1, 7), come(40, 8, 2, 6, 6, 1), come(0, 5, 5, 5, 5, 5), come(7, 0, 60, 0, 2, 3),
    come(200, 1, 1, 30, 9, 0), come(3, 12, 4, 4, 8, 2),
]
SIX_PERSONS = [(call[1], call[3:]) for call in SIX[1:]]


class Order(unittest.TestCase):
    def test_each_order(self):
        told = ask_behind(THREE, *[order(*line) for line in itertools.permutations(range(3))])
        self.assertEqual(told, [[10], [10], [9], [9], [10], [9]])

    def test_all_are_there_from_minute_0_on(self):
        before = [start(2), come(200, 3, 2), come(100, 2, 4), come(1, 1, 1)]
        self.assertEqual(ask_behind(before, order(0, 1, 2), order(1, 0, 2), last()), [[10], [9], [210]])

    def test_six_persons_and_five_windows(self):
        for line in ((0, 1, 2, 3, 4, 5), (5, 4, 3, 2, 1, 0), (2, 0, 5, 1, 4, 3)):
            told = last_in_turn([(0, SIX_PERSONS[i][1]) for i in line], 5)
            self.assertEqual(ask_behind(SIX, order(*line)), [[told]])

    def test_one_person(self):
        told = ask(start(3), come(9, 1, 2, 3), order(0), order(1), order(), order(0, 0))
        self.assertEqual(told[2:], [[6], [-22], [-22], [-22]])

    def test_too_short(self):
        for line in ((), (0,), (2,), (0, 1), (1, 2), (2, 1)):
            self.assertEqual(ask_behind(THREE, order(*line), last()), [[-22], [10]])

    def test_too_long(self):
        for line in ((0, 1, 2, 0), (0, 1, 2, 2), (0, 1, 2, 3), (2, 1, 0, BIG), [0, 1, 2] * 20, range(60), [0] * 60):
            self.assertEqual(ask_behind(THREE, order(*line), last()), [[-22], [10]])
            self.assertEqual(ask_behind(SIX, order(*line), state()), [[-22], [6, 5, 251]])

    def test_one_number_twice(self):
        for line in ((0, 0, 1), (1, 2, 2), (0, 1, 0), (1, 1, 1), (2, 0, 2)):
            self.assertEqual(ask_behind(THREE, order(*line), last()), [[-22], [10]])

    def test_a_number_that_is_no_persons(self):
        for line in ((0, 1, 3), (3, 1, 2), (1, 2, 3), (0, 6, 2), (0, 1, BIG), (BIG, BIG, BIG)):
            self.assertEqual(ask_behind(THREE, order(*line), last()), [[-22], [10]])

    def test_nobody_there(self):
        for m in (1, 2, 3, 4, 5):
            told = ask(start(m), order(), order(0), order(BIG), order(*range(60)), order())
            self.assertEqual(told, [[0], [0], [-22], [-22], [-22], [0]])

    def test_behind_one_who_left_or_came(self):
        told = ask_behind(THREE, leave(0), order(0, 1), order(1, 0), order(0, 1, 2), come(0, 5, 5), order(2, 1, 0))
        self.assertEqual(told, [[10], [7], [7], [-22], [2], [15]])


class Best(unittest.TestCase):
    def test_the_first_of_those_as_soon(self):
        self.assertEqual(ask_behind(THREE, best()), [[9, 1, 0, 2]])

    def test_not_the_order_in_which_they_are(self):
        told = ask(start(2), come(0, 9, 1), come(0, 1, 9), best(), order(0, 1), order(1, 0))
        self.assertEqual(told[3:], [[11, 1, 0], [19], [11]])

    def test_the_order_in_which_they_are_where_it_is_as_soon(self):
        self.assertEqual(ask(start(1), come(0, 9), come(0, 1), come(0, 5), best())[4], [15, 0, 1, 2])

    def test_persons_who_take_as_long_as_one_another(self):
        for many in range(1, 7):
            before = [start(3)] + [come(0, 4, 7, 2)] * many
            self.assertEqual(ask_behind(before, best()), [[13 + 7 * (many - 1), *range(many)]])

    def test_two_pairs_who_take_as_long_as_one_another(self):
        before = [start(2), come(0, 9, 1), come(0, 1, 9), come(0, 9, 1), come(0, 1, 9)]
        told = ask_behind(before, best(), order(1, 0, 2, 3), order(1, 0, 3, 2), order(3, 0, 1, 2), order(1, 3, 0, 2))
        self.assertEqual(told, [[21, 1, 0, 3, 2], [29], [21], [21], [21]])

    def test_those_who_come_late_are_there_from_minute_0_on(self):
        told = ask(start(2), come(0, 9, 1), come(200, 1, 9), best(), last(), change(1, 0, 20), best())
        self.assertEqual(told[3:], [[11, 1, 0], [210], [1], [30, 1, 0]])

    def test_against_trying_all_orders(self):
        numbers = Numbers(11)
        ties = 0
        for count in range(120):
            m = 1 + numbers.below(5)
            longest = numbers.one_of((1, 2, 3, 10, 61))
            many = numbers.below(6 if count % 10 else 7)
            persons = [(numbers.below(201), [numbers.below(longest) for window in range(m)]) for i in range(many)]
            told = ask_behind(calls_of(m, persons), best())[0]
            self.assertEqual(told, soonest_of_all(persons, m), persons)
            lines = itertools.permutations(range(many))
            as_soon = [line for line in lines if last_in_turn([(0, persons[i][1]) for i in line], m) == told[0]]
            ties += len(as_soon) > 1
        self.assertGreater(ties, 60)

    def test_six_persons_and_five_windows(self):
        self.assertEqual(ask_behind(SIX, best()), [soonest_of_all(SIX_PERSONS, 5)])

    def test_the_order_answered_is_as_soon_as_answered(self):
        late, *line = ask_behind(SIX, best())[0]
        self.assertEqual(ask_behind(SIX, order(*line)), [[late]])

    def test_one_person(self):
        self.assertEqual(ask(start(3), come(9, 1, 2, 3), best())[2], [6, 0])

    def test_nobody_there(self):
        for m in (1, 2, 3, 4, 5):
            self.assertEqual(ask(start(m), best(), come(1, *[1] * m), leave(0), best())[1::3], [[0], [0]])

    def test_behind_leave_change_and_a_second_start(self):
        told = ask_behind(
            THREE, best(), change(2, 1, 30), best(), leave(1), best(), start(1), best(), come(3, 4), best(),
        )
        self.assertEqual(told[:5], [[9, 1, 0, 2], [1], [37, 2, 0, 1], [39], [33, 1, 0]])
        self.assertEqual(told[5:], [[0], [0], [0], [4, 0]])


class Turned(unittest.TestCase):
    def test_both(self):
        self.assertEqual(ask_behind(THREE, turned()), [[10, 10]])

    def test_all_are_there_from_minute_0_on(self):
        told = ask(start(2), come(200, 9, 1), come(0, 1, 9), turned(), last(), order(0, 1))
        self.assertEqual(told[3:], [[19, 19], [219], [19]])

    def test_both_orders_are_turned(self):
        # With the persons alone turned round it would be 11, with the windows alone too.
        self.assertEqual(ask(start(2), come(0, 9, 1), come(0, 1, 9), turned(), swap(0, 1), order(1, 0))[3:],
                         [[19, 19], [11], [11]])

    def test_six_persons_and_five_windows(self):
        told = last_in_turn([(0, l) for t, l in SIX_PERSONS], 5)
        self.assertEqual(ask_behind(SIX, turned()), [[told, told]])

    def test_nobody_there(self):
        for m in (1, 2, 3, 4, 5):
            self.assertEqual(ask(start(m), turned()), [[0], [0, 0]])

    def test_one_person_and_one_window(self):
        self.assertEqual(ask(start(3), come(9, 1, 2, 3), turned())[2], [6, 6])
        self.assertEqual(ask(start(1), come(9, 4), come(0, 5), turned())[3], [9, 9])

    def test_behind_leave_and_change(self):
        told = ask_behind(THREE, leave(0), turned(), change(0, 1, 40), turned())
        self.assertEqual(told, [[10], [7, 7], [4], [43, 43]])


class Swap(unittest.TestCase):
    def test_both_ways_round(self):
        self.assertEqual(ask_behind(THREE, swap(0, 1), swap(1, 0)), [[9], [9]])

    def test_a_window_with_itself(self):
        self.assertEqual(ask_behind(THREE, swap(0, 0), swap(1, 1)), [[10], [10]])
        self.assertEqual(ask_behind(SIX, *[swap(j, j) for j in range(5)]), [[251]] * 5)

    def test_they_come_when_they_come(self):
        told = ask(start(2), come(50, 9, 1), come(0, 1, 9), last(), swap(0, 1), swap(0, 0))
        self.assertEqual(told[3:], [[69], [61], [69]])

    def test_the_windows_between_stay(self):
        # Done as they are: 1 4 9 / 5 6 11; with the first and the last swapped: 5 8 9 / 7 9 13.
        told = ask(start(3), come(0, 1, 3, 5), come(0, 4, 1, 2), swap(0, 2), swap(2, 0), swap(0, 1), swap(1, 2), last())
        self.assertEqual(told[3:], [[13], [13], [11], [10], [11]])

    def test_six_persons_and_five_windows(self):
        for j in range(5):
            for k in range(5):
                places = list(range(5))
                places[j], places[k] = k, j
                told = last_in_turn([(t, [l[window] for window in places]) for t, l in SIX_PERSONS], 5)
                self.assertEqual(ask_behind(SIX, swap(j, k)), [[told]])

    def test_no_such_window(self):
        for j, k in ((2, 0), (0, 2), (2, 2), (5, 1), (1, 5), (BIG, 0), (0, BIG), (BIG, BIG)):
            self.assertEqual(ask_behind(THREE, swap(j, k), last()), [[-2], [10]])
        for j, k in ((5, 0), (4, 5), (5, 5), (BIG, 4)):
            self.assertEqual(ask_behind(SIX, swap(j, k)), [[-2]])

    def test_nobody_there(self):
        for m in (1, 2, 3, 4, 5):
            told = ask(start(m), swap(0, m - 1), swap(m - 1, m - 1), swap(m, 0), swap(0, m))
            self.assertEqual(told, [[0], [0], [0], [-2], [-2]])

    def test_one_window(self):
        self.assertEqual(ask(start(1), come(2, 3), swap(0, 0), swap(0, 1))[2:], [[5], [-2]])


class NothingIsChanged(unittest.TestCase):
    def test_the_calls_behind_answer_as_they_would_have_without(self):
        behind = [
            last(), done(1, 1), way(1, 1), critical(), slack(1, 0), waits(), person(0), person(1), idle(0), idle(1),
            state(), blocked(0), rooms(), order(1, 0), turned(), swap(0, 1), best(),
        ]
        for before in (THREE, SIX, SIX[:3]):
            many = len(before) - 1
            lines = [range(many), reversed(range(many)), (0, 0)]
            for asked in (*[order(*line) for line in lines], best(), turned(), swap(0, 1), swap(1, 0), swap(9, 9)):
                self.assertEqual(ask_behind(before, asked, *behind)[1:], ask_behind(before, *behind))

    def test_minutes_turned_or_swapped_are_the_old_ones_behind_it(self):
        told = ask_behind(
            THREE, turned(), person(0), swap(0, 1), person(0), person(1), best(), order(2, 1, 0), person(2),
        )
        self.assertEqual([told[1], told[3], told[4], told[7]], [[0, 3, 2], [0, 3, 2], [0, 2, 4], [1, 1, 1]])

    def test_a_change_behind_them_changes_the_row_alone(self):
        told = ask_behind(
            THREE, swap(0, 1), change(0, 0, 9), person(0), swap(0, 1), turned(), change(0, 1, 0), person(0),
        )
        self.assertEqual([told[1], told[2], told[5], told[6]], [[3], [0, 9, 2], [2], [0, 9, 0]])

    def test_a_second_time_answers_the_same(self):
        asked = [order(2, 1, 0), best(), turned(), swap(0, 1)]
        told = ask_behind(THREE, *asked, *asked)
        self.assertEqual(told[:4], told[4:])


if __name__ == "__main__":
    unittest.main()
