"""The interface: one list in, one list back, and what is kept between."""

import builtins
import contextlib
import io
import sys
import unittest
from unittest import mock

from tests.helper import (
    ASKING, BIG, Model, Numbers, ask, ask_behind, best, blocked, change, come, critical, done, idle, in_one, last,
    leave, leaves, order, person, rooms, slack, start, state, swap, turned, wait, waits, way,
)
from windowrow.windows import answers

ALL_BUT_START = [
    come(0, 1), come(0), come(BIG, BIG), leave(0), change(0, 0, 1), change(BIG, BIG, BIG), leaves(21, 0, 0),
    blocked(21), swap(BIG, BIG), person(BIG), idle(BIG), *ASKING,
]

SIX = [start(5)] + [come(i * 20 % 50, i * 7 % 11, 3, 20 - i, i * i, 60 // (i + 1)) for i in range(6)]


class OneList(unittest.TestCase):
    def test_count_ahead_of_each_answer(self):
        calls = [0, 2, 1, 4, 2, 3, 5, 4, 0, 1, 6, 7, 0, 1, 8, 10, 2, 9, 9, 0, 0]
        told = [1, 0, 1, 0, 2, 12, 7, 1, 12, 5, 2, 0, 0, 0, 1, 5, 12, 0, 0, 0, 1, 3, 0, 0, 0, 1, -2, 1, 0]
        self.assertEqual(answers(calls), told)

    def test_count_ahead_of_each_answer_from_order_on(self):
        before = [0, 2, 1, 4, 2, 3, 5, 1, 0, 2, 1, 1]
        calls = [11, 2, 1, 0, 12, 13, 14, 0, 1, 15, 0, 16, 0, 1, 0, 17, 18, 0, 19, 1, 20]
        told = [1, 9, 3, 9, 0, 1, 2, 9, 9, 1, 13, 2, 13, 0, 1, 12, 1, 0, 3, 4, 3, 5, 1, 7, 3, 2, 2, 13]
        self.assertEqual(answers(before + calls), [1, 0, 1, 0, 1, 1] + told)

    def test_refused_is_its_number_alone(self):
        calls = [8, 0, 6, 0, 1, 8, 4, 0, 0, 7, 0, 0, 1, 201, 1, 1]
        self.assertEqual(answers(calls), [1, -11, 1, -22, 1, 0, 1, -6, 1, -2, 1, -2, 1, -22])
        calls = [12, 0, 1, 11, 1, 0, 14, 0, 1, 15, 21, 16, 21, 0, 0, 18, 0, 19, 1]
        self.assertEqual(answers(calls), [1, -11, 1, 0, 1, -22, 1, -2, 1, -22, 1, -2, 1, -2, 1, -2])

    def test_one_call(self):
        self.assertEqual(answers([6]), [1, -11])
        self.assertEqual(answers([0, 5]), [1, 0])

    def test_kinds(self):
        told = answers(in_one([start(2), come(0, 3, 2), come(4, 1, 1), *ASKING, leave(0), leave(0), leave(0), *ASKING]))
        self.assertIs(type(told), list)
        self.assertEqual({type(number) for number in told}, {int})

    def test_two_hundred_calls(self):
        calls = [start(5)] + [come(1, 2, 3, 4, 5, 6)] + [way(0, 4)] * 198
        self.assertEqual(ask(*calls)[2:], [[5, 0, 0, 0, 1, 0, 2, 0, 3, 0, 4]] * 198)

    def test_two_hundred_calls_on_six_persons_and_five_windows(self):
        asked = [
            order(5, 4, 3, 2, 1, 0), best(), turned(), swap(0, 4), blocked(0), leaves(0, 5, 0), rooms(), person(5),
            idle(2), state(), order(0, 1, 2, 3, 4, 4), swap(5, 0), blocked(21), leaves(21, 5, 4), leaves(0, 6, 0),
            leaves(1, 3, 2), blocked(1), person(6), idle(5), blocked(20), swap(3, 3), last(), done(5, 4),
        ]
        calls = list(SIX)
        for i in range(8):
            calls += asked + [change(i % 6, i % 5, 9 * i % 61)]
        calls.append(state())
        self.assertEqual(len(calls), 200)
        model = Model()
        self.assertEqual(ask(*calls), [model.answer(call) for call in calls])

    def test_two_hundred_of_the_longest(self):
        late, *line = ask_behind(SIX, best())[0]
        self.assertEqual(ask_behind(SIX, *[best()] * 193), [[late] + line] * 193)
        self.assertEqual(ask_behind(SIX, *[rooms()] * 193), ask_behind(SIX, rooms()) * 193)

    def test_lists_of_sixty(self):
        told = ask(start(3), *[come(0, *range(60)), order(*range(60))] * 99, last())
        self.assertEqual(told, [[0]] + [[-22]] * 198 + [[0]])

    def test_greatest_numbers(self):
        told = ask(
            start(BIG), start(1), come(BIG, BIG), come(0, 1), leave(BIG), change(BIG, BIG, BIG), change(0, 0, BIG),
            done(BIG, BIG), wait(BIG, BIG), way(BIG, BIG), slack(BIG, BIG), last(),
        )
        self.assertEqual(told, [[-22], [0], [-22], [0], [-2], [-2], [-22], [-2], [-2], [-2], [-2], [1]])
        told = ask(
            start(1), come(0, 1), order(BIG), swap(BIG, BIG), blocked(BIG), leaves(BIG, BIG, BIG), leaves(BIG, 0, 0),
            person(BIG), idle(BIG), state(),
        )
        self.assertEqual(told[2:], [[-22], [-2], [-22], [-2], [-22], [-2], [-2], [1, 1, 1]])


class BeforeAStart(unittest.TestCase):
    def test_each_call(self):
        for call in ALL_BUT_START:
            self.assertEqual(ask(call), [[-11]])

    def test_behind_a_start_that_is_refused(self):
        for m in (0, 6, BIG):
            for call in ALL_BUT_START:
                self.assertEqual(ask(start(m), call, call), [[-22], [-11], [-11]])

    def test_nothing_comes_before_a_start(self):
        self.assertEqual(ask(come(0, 1), start(1), last(), critical()), [[-11], [0], [0], [-6]])


class BehindOneAnother(unittest.TestCase):
    def test_the_calls_behind_each_are_understood(self):
        before = [start(2), come(0, 3, 2), come(0, 2, 4)]
        for call in ASKING:
            told = ask_behind(before, call, done(1, 1), call, call, waits(), come(9, 0, 1), call)
            self.assertEqual([told[1], told[4], told[5]], [[9, 5], [3, 3, 0], [2]], call)
            self.assertEqual([told[2], told[3]], [told[0]] * 2, call)

    def test_all_asked_of_one_object(self):
        # Whoever answers out of the object's old self is found out behind each change.
        changes = [
            start(3), come(0, 3, 2, 9), come(5, 2, 4, 1), come(1, 1, 30, 1), change(0, 1, 60), leave(1),
            come(0, 60, 1, 0), start(0), come(201, 1, 1, 1), start(2), come(9, 9, 9), come(2, 1, 0), leave(0), leave(0),
        ]
        for asked in (ASKING[:13], ASKING[13:]):
            calls = [call for changed in changes for call in [changed, *asked]]
            model = Model()
            self.assertEqual(ask(*calls), [model.answer(call) for call in calls])

    def test_asking_in_whatever_order(self):
        alone = {tuple(call): ask_behind(SIX, call)[0] for call in ASKING}
        numbers = Numbers(41)
        calls = [numbers.one_of(ASKING) for count in range(190)]
        self.assertEqual(ask_behind(SIX, *calls), [alone[tuple(call)] for call in calls])


class NothingKept(unittest.TestCase):
    calls = in_one([
        start(2), come(0, 3, 2), come(0, 2, 4), change(0, 1, 9), critical(), slack(1, 0), waits(), order(1, 0), *ASKING,
        leave(0), change(0, 0, 5), way(0, 1), start(0), last(), *ASKING,
    ])

    def test_what_is_handed_in_stays_as_it_was(self):
        handed = list(self.calls)
        answers(handed)
        self.assertEqual(handed, self.calls)

    def test_not_changed_for_a_while_either(self):
        class Watched(list):
            def refuse(self, *args, **kwargs):
                raise AssertionError("what was handed in is changed")

            append = extend = insert = pop = remove = clear = sort = reverse = refuse
            __setitem__ = __delitem__ = __iadd__ = __imul__ = refuse

        self.assertEqual(answers(Watched(self.calls)), answers(self.calls))

    def test_a_second_time_answers_the_same(self):
        first = answers(self.calls)
        self.assertEqual(answers(self.calls), first)
        answers(in_one([start(5), come(9, 1, 2, 3, 4, 5)]))
        self.assertEqual(answers(self.calls), first)

    def test_each_time_is_new(self):
        answers(in_one([start(1), come(0, 1)]))
        self.assertEqual(answers([6]), [1, -11])

    def test_what_is_given_back_may_be_changed(self):
        first = answers(self.calls)
        kept = list(first)
        first.clear()
        self.assertEqual(answers(self.calls), kept)

    def test_nothing_is_printed(self):
        out = io.StringIO()
        with contextlib.redirect_stdout(out), contextlib.redirect_stderr(out):
            answers(self.calls)
        self.assertEqual(out.getvalue(), "")

    def test_nothing_is_read_or_imported(self):
        refuse = mock.Mock(side_effect=AssertionError("something is read or imported"))
        expected = answers(self.calls)
        with mock.patch.object(builtins, "open", refuse), mock.patch.object(builtins, "__import__", refuse):
            with mock.patch.object(builtins, "input", refuse), mock.patch.object(sys, "stdin", None):
                told = answers(self.calls)
        self.assertEqual(told, expected)


if __name__ == "__main__":
    unittest.main()
