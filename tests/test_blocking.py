"""Point 4: blocked, leaves, rooms; and what it means that so many may stand between two windows."""

import unittest

from tests.helper import (
    BIG, Numbers, ask, ask_behind, blocked, calls_of, change, come, last, leave, leaves, left_by_moving, places_of,
    rooms, some_row, start, state,
)

# With room for all: done 1 6 / 2 7 / 11 12. With 0 between the second stays at window 0 till minute 6.
THREE = [start(2), come(0, 1, 5), come(0, 1, 1), come(0, 9, 1)]

# The last one loses its time at window 0 if those before it must stay there.
FOUR = [start(2), come(0, 1, 9), come(0, 1, 1), come(0, 1, 1), come(0, 9, 1)]

SIX = [start(5), come(0, 1, 1, 60, 1, 1)] + [come(0, 1, 1, 1, 1, 1)] * 4 + [come(0, 1, 60, 1, 1, 1)]


class Blocked(unittest.TestCase):
    def test_when_the_last_is_done_and_by_how_much_later(self):
        self.assertEqual(ask_behind(THREE, blocked(0), blocked(1), blocked(2), blocked(3)),
                         [[16, 4], [12, 0], [12, 0], [12, 0]])
        self.assertEqual(ask_behind(FOUR, blocked(0), blocked(1), blocked(2), blocked(3), blocked(4)),
                         [[21, 8], [20, 7], [13, 0], [13, 0], [13, 0]])

    def test_later_than_the_last_as_they_come(self):
        before = [start(2), come(10, 1, 5), come(0, 1, 1), come(5, 9, 1)]
        self.assertEqual(ask_behind(before, last(), blocked(0), blocked(1)), [[22], [26, 4], [22, 0]])

    def test_most_between(self):
        told = ask_behind(THREE, blocked(19), blocked(20), blocked(21), blocked(22), blocked(2 ** 31), blocked(BIG))
        self.assertEqual(told, [[12, 0], [12, 0], [-22], [-22], [-22], [-22]])

    def test_one_stays_where_it_is_and_holds_up_those_behind(self):
        # The second is done at window 1 at minute 12 and stays there till 22: so long the third stays at window 0.
        before = [start(3), come(0, 1, 1, 20), come(0, 1, 10, 1), come(0, 1, 1, 1)]
        self.assertEqual(ask_behind(before, blocked(0), leaves(0, 1, 0), leaves(0, 1, 1), leaves(0, 2, 0)),
                         [[24, 0], [2], [22], [22]])

    def test_nobody_there(self):
        for m in (1, 2, 3, 4, 5):
            told = ask(start(m), blocked(0), blocked(1), blocked(20), blocked(21), blocked(BIG))
            self.assertEqual(told, [[0], [0, 0], [0, 0], [0, 0], [-22], [-22]])

    def test_behind_come_leave_change_and_a_second_start(self):
        told = ask_behind(
            THREE, leave(1), blocked(0), come(0, 9, 9), blocked(0), change(0, 1, 60), blocked(0), blocked(1), start(1),
            blocked(0), come(4, 4), blocked(0),
        )
        self.assertEqual(told[:4], [[12], [11, 0], [2], [28, 0]])
        self.assertEqual(told[4:], [[5], [79, 8], [71, 0], [0], [0, 0], [0], [8, 0]])


class Leaves(unittest.TestCase):
    def test_with_0_between(self):
        told = ask_behind(THREE, *[leaves(0, i, j) for i in range(3) for j in range(2)])
        self.assertEqual(told, [[1], [6], [6], [7], [15], [16]])

    def test_with_1_between(self):
        told = ask_behind(THREE, *[leaves(1, i, j) for i in range(3) for j in range(2)])
        self.assertEqual(told, [[1], [6], [2], [7], [11], [12]])

    def test_one_more_place_ahead(self):
        # Behind a first one who is at window 1 till minute 51, b of the others may leave window 0 when they're done.
        # The next stays there till then, and those behind it begin there from then on.
        before = [start(2), come(0, 1, 50)] + [come(0, 1, 0)] * 5
        for b in range(7):
            told = ask_behind(before, *[leaves(b, i, 0) for i in range(6)])
            self.assertEqual(told, [[i + 1] if i <= b else [50 + i - b] for i in range(6)])

    def test_from_the_last_window_when_it_is_done(self):
        told = ask(start(1), come(0, 3), come(0, 4), leaves(0, 0, 0), leaves(0, 1, 0), blocked(0))
        self.assertEqual(told[3:], [[3], [7], [7, 0]])

    def test_refused(self):
        for i, j in ((3, 0), (0, 2), (3, 2), (BIG, 0), (0, BIG), (BIG, BIG)):
            for b in (0, 20, 21, BIG):
                self.assertEqual(ask_behind(THREE, leaves(b, i, j), last()), [[-2], [12]])
        for b in (21, 22, BIG):
            self.assertEqual(ask_behind(THREE, leaves(b, 0, 0), leaves(b, 2, 1), last()), [[-22], [-22], [12]])
        self.assertEqual(ask_behind(THREE, leaves(20, 2, 0), leaves(20, 2, 1)), [[11], [12]])

    def test_six_persons_and_five_windows_refused(self):
        for i, j, told in ((5, 4, [-22]), (6, 4, [-2]), (5, 5, [-2]), (6, 5, [-2])):
            self.assertEqual(ask_behind(SIX, leaves(21, i, j), leaves(BIG, i, j)), [told, told])

    def test_nobody_there(self):
        for m in (1, 2, 3, 4, 5):
            told = ask(start(m), leaves(0, 0, 0), leaves(20, 0, 0), leaves(21, 0, 0))
            self.assertEqual(told, [[0], [-2], [-2], [-2]])

    def test_behind_leave_and_change(self):
        told = ask_behind(
            THREE, change(0, 1, 8), leaves(0, 1, 0), leaves(0, 2, 0), leave(0), leaves(0, 0, 0), leaves(0, 1, 0),
            leaves(0, 2, 0),
        )
        self.assertEqual(told, [[5], [9], [18], [12], [1], [10], [-2]])


class Rooms(unittest.TestCase):
    def test_how_few(self):
        self.assertEqual(ask_behind(THREE, rooms()), [[1]])
        self.assertEqual(ask_behind(FOUR, rooms()), [[2]])
        self.assertEqual(ask(start(2), come(0, 3, 2), come(0, 2, 4), rooms())[3], [0])

    def test_from_none_to_four(self):
        for many in range(5):
            before = [start(2), come(0, 1, 60)] + [come(0, 1, 1)] * many + [come(0, 60, 1)]
            self.assertEqual(ask_behind(before, rooms()), [[many]])

    def test_six_persons_and_five_windows(self):
        self.assertEqual(ask_behind(SIX, rooms()), [[4]])

    def test_nobody_one_person_or_one_window(self):
        for m in (1, 2, 3, 4, 5):
            self.assertEqual(ask(start(m), rooms(), come(3, *[7] * m), rooms()), [[0], [0], [0], [0]])
        self.assertEqual(ask_behind([start(1)] + [come(0, n) for n in (5, 1, 60, 0, 2, 3)], rooms()), [[0]])

    def test_behind_come_leave_change_and_a_second_start(self):
        told = ask_behind(FOUR, leave(1), rooms(), change(0, 1, 0), rooms(), change(0, 1, 9), come(0, 9, 1), rooms(),
                          start(2), rooms())
        self.assertEqual(told, [[13], [1], [9], [0], [0], [3], [1], [0], [0]])


def crowded_row(numbers):
    """How many windows, and persons who come soon and stand in one another's way."""
    m = 2 + numbers.below(4)
    many = 3 + numbers.below(4)
    minutes = (0, 1, 1, 2, 3, 20, 60)
    return m, [(numbers.below(4), [numbers.one_of(minutes) for window in range(m)]) for person in range(many)]


class AgainstMovingThemOn(unittest.TestCase):
    def rows(self, seed, many):
        numbers = Numbers(seed)
        for count in range(many):
            yield crowded_row(numbers) if count % 2 else some_row(numbers)

    def test_leaves(self):
        later = 0
        for m, persons in self.rows(21, 120):
            before = calls_of(m, persons)
            for b in sorted({0, 1, 2, len(persons) - 1, len(persons), 20}):
                left = left_by_moving(persons, m, b)
                told = ask_behind(before, *[leaves(b, i, j) for i, j in places_of(m, persons)])
                self.assertEqual(told, [[left[place]] for place in places_of(m, persons)], (m, persons, b))
                later += ask_behind(before, blocked(b))[0][1] > 0
        self.assertGreater(later, 40)

    def test_blocked_and_rooms(self):
        found = {}
        for m, persons in self.rows(22, 120):
            late = {b: max(left_by_moving(persons, m, b).values()) for b in range(len(persons) + 1)}
            room_for_all = late[len(persons)]
            told = ask_behind(calls_of(m, persons), last(), *[blocked(b) for b in late], rooms())
            self.assertEqual(told[0], [room_for_all])
            self.assertEqual(told[1:-1], [[late[b], late[b] - room_for_all] for b in late])
            self.assertEqual(told[-1], [min(b for b in late if late[b] == room_for_all)], (m, persons))
            found[told[-1][0]] = True
        self.assertGreaterEqual(len(found), 3)

    def test_six_persons_and_five_windows(self):
        persons = [(call[1], call[3:]) for call in SIX[1:]]
        for b in (0, 1, 2, 3, 4, 5, 6, 20):
            left = left_by_moving(persons, 5, b)
            told = ask_behind(SIX, *[leaves(b, i, j) for i, j in places_of(5, persons)], blocked(b), state())
            self.assertEqual(told[:-2], [[left[place]] for place in places_of(5, persons)])
            self.assertEqual(told[-2], [left[5, 4], left[5, 4] - told[-1][2]])


class NothingIsChanged(unittest.TestCase):
    def test_a_second_time_answers_the_same(self):
        asked = [blocked(0), leaves(0, 2, 0), rooms(), blocked(20), last(), state(), blocked(21), leaves(21, 1, 1)]
        for before in (THREE, FOUR, SIX):
            told = ask_behind(before, *asked, *asked)
            self.assertEqual(told[:8], told[8:])


if __name__ == "__main__":
    unittest.main()
