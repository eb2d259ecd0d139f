"""The interface: one list in, one list back, and what is kept between."""

import contextlib
import io
import unittest

from tests.helper import (
    BIG, LATER, ask, ask_behind, change, come, critical, done, in_one, last, leave, order, slack, start, wait, waits,
    way,
)
from windowrow.windows import answers

ALL_BUT_START = [
    come(0, 1), come(0), come(BIG, BIG), leave(0), change(0, 0, 1), change(BIG, BIG, BIG), done(0, 0), wait(0, 0),
    last(), way(0, 0), critical(), slack(0, 0), waits(), *LATER.values(),
]


class OneList(unittest.TestCase):
    def test_count_ahead_of_each_answer(self):
        calls = [0, 2, 1, 4, 2, 3, 5, 4, 0, 1, 6, 7, 0, 1, 8, 10, 2, 9, 9, 0, 0]
        told = [1, 0, 1, 0, 2, 12, 7, 1, 12, 5, 2, 0, 0, 0, 1, 5, 12, 0, 0, 0, 1, 3, 0, 0, 0, 1, -2, 1, 0]
        self.assertEqual(answers(calls), told)

    def test_refused_is_its_number_alone(self):
        calls = [8, 0, 6, 0, 1, 8, 4, 0, 0, 7, 0, 0, 1, 201, 1, 1]
        self.assertEqual(answers(calls), [1, -11, 1, -22, 1, 0, 1, -6, 1, -2, 1, -2, 1, -22])

    def test_one_call(self):
        self.assertEqual(answers([6]), [1, -11])
        self.assertEqual(answers([0, 5]), [1, 0])

    def test_kinds(self):
        told = answers(in_one([start(2), come(0, 3, 2), done(0, 1), wait(0, 1), last(), way(0, 1), critical(),
                               slack(0, 0), waits(), leave(0), leave(0)]))
        self.assertIs(type(told), list)
        self.assertEqual({type(number) for number in told}, {int})

    def test_two_hundred_calls(self):
        calls = [start(5)] + [come(1, 2, 3, 4, 5, 6)] + [way(0, 4)] * 198
        self.assertEqual(ask(*calls)[2:], [[5, 0, 0, 0, 1, 0, 2, 0, 3, 0, 4]] * 198)

    def test_lists_of_sixty(self):
        told = ask(start(3), *[come(0, *range(60)), order(*range(60))] * 99, last())
        self.assertEqual((told[1::2][:99], told[-1]), ([[-22]] * 99, [0]))

    def test_greatest_numbers(self):
        told = ask(
            start(BIG), start(1), come(BIG, BIG), come(0, 1), leave(BIG), change(BIG, BIG, BIG), change(0, 0, BIG),
            done(BIG, BIG), wait(BIG, BIG), way(BIG, BIG), slack(BIG, BIG), last(),
        )
        self.assertEqual(told, [[-22], [0], [-22], [0], [-2], [-2], [-22], [-2], [-2], [-2], [-2], [1]])


class BeforeAStart(unittest.TestCase):
    def test_each_call(self):
        for call in ALL_BUT_START:
            self.assertEqual(ask(call), [[-11]])

    def test_behind_a_start_that_is_refused(self):
        for m in (0, 6, BIG):
            for call in ALL_BUT_START:
                self.assertEqual(ask(start(m), call, call), [[-22], [-11], [-11]])

    def test_nothing_comes_before_a_start(self):
        self.assertEqual(ask(come(0, 1), start(1), last(), critical()), [[-11], [0], [0], [-6]])


class ReadPast(unittest.TestCase):
    def test_the_calls_behind_are_understood(self):
        before = [start(2), come(0, 3, 2), come(0, 2, 4)]
        for name, call in LATER.items():
            told = ask_behind(before, call, done(1, 1), call, call, waits(), come(9, 0, 1))
            self.assertEqual([told[1], told[4], told[5]], [[9, 5], [3, 3, 0], [2]], name)

    def test_all_behind_one_another(self):
        told = ask(start(1), *LATER.values(), come(2, 3), *LATER.values(), last())
        self.assertEqual([told[1 + len(LATER)], told[-1]], [[0], [5]])


class NothingKept(unittest.TestCase):
    calls = in_one([
        start(2), come(0, 3, 2), come(0, 2, 4), change(0, 1, 9), critical(), slack(1, 0), waits(), order(1, 0),
        leave(0), change(0, 0, 5), way(0, 1), start(0), last(),
    ])

    def test_what_is_handed_in_stays_as_it_was(self):
        handed = list(self.calls)
        answers(handed)
        self.assertEqual(handed, self.calls)

    def test_not_changed_for_a_while_either(self):
        class Watched(list):
            def refuse(self, *args, **kwargs):
                raise AssertionError("what was handed in is changed")

            append = extend = insert = pop = remove = clear = sort = reverse = refuse
            __setitem__ = __delitem__ = __iadd__ = __imul__ = refuse

        self.assertEqual(answers(Watched(self.calls)), answers(self.calls))

    def test_a_second_time_answers_the_same(self):
        first = answers(self.calls)
        self.assertEqual(answers(self.calls), first)
        answers(in_one([start(5), come(9, 1, 2, 3, 4, 5)]))
        self.assertEqual(answers(self.calls), first)

    def test_each_time_is_new(self):
        answers(in_one([start(1), come(0, 1)]))
        self.assertEqual(answers([6]), [1, -11])

    def test_what_is_given_back_may_be_changed(self):
        first = answers(self.calls)
        kept = list(first)
        first.clear()
        self.assertEqual(answers(self.calls), kept)

    def test_nothing_is_printed(self):
        out = io.StringIO()
        with contextlib.redirect_stdout(out), contextlib.redirect_stderr(out):
            answers(self.calls)
        self.assertEqual(out.getvalue(), "")


if __name__ == "__main__":
    unittest.main()
