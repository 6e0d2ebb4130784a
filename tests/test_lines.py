"""A line of calls as it is handed in, and its answers as they are given back."""

import contextlib
import io
import unittest

from foilcuts.webs import answers
from tests.helper import (BIGGEST, ask, best, coat, fault, fits, follow, following, gain, last, lift, metres, plan,
                          sheet, stamp, start, state, stretches, total, worst)

HOW_MANY_BEHIND = {1: 1, 2: 3, 3: 1, 4: 1, 5: 1, 6: 1, 7: 1, 8: 0, 9: 1, 10: 3, 11: 3, 12: 3, 13: 1, 14: 1, 15: 1,
                   16: 0, 17: 1, 18: 0, 19: 0}


def every_other_call(number):
    return [[call] + [number] * many for call, many in HOW_MANY_BEHIND.items()]


class BeforeAStart(unittest.TestCase):
    def test_every_other_call(self):
        for number in (0, 1, BIGGEST):
            with self.subTest(number=number):
                self.assertEqual(ask(*every_other_call(number)), [[-11]] * 19)

    def test_each_call_by_itself(self):
        for call in every_other_call(0):
            with self.subTest(call=call):
                self.assertEqual(answers(call), [1, -11])

    def test_after_a_start_that_was_refused(self):
        line = [start(lanes=0)] + every_other_call(0) + [start(lanes=4)] + every_other_call(BIGGEST)
        self.assertEqual(ask(*line), ([[-22]] + [[-11]] * 19) * 2)

    def test_what_came_ahead_of_a_start_is_not_kept(self):
        self.assertEqual(ask(coat(5), fault(0, 0, 1), start(long=4), stretches(0), coat(1)),
                         [[-11], [-11], [0], [1, 0, 4], [5]])
        self.assertEqual(last(stamp(0, 0, 0), follow(0), start(long=4), state()), [4, 1, 0, 0])


class Form(unittest.TestCase):
    def test_how_many_numbers_then_these(self):
        line = start(long=5) + fault(0, 2, 3) + stretches(0) + best(5) + plan(0) + total() + best(81) + plan(1)
        self.assertEqual(answers(line), [1, 0, 1, 0, 5, 2, 0, 2, 3, 5, 3, 5, 1, 1, 5, 2, 0, 0, 3, 0, 1, 4,
                                         1, -22, 1, -22])

    def test_how_many_numbers_of_the_sheets(self):
        line = (start(lanes=2, long=5) + worst() + fault(0, 2, 3) + stamp(1, 1, 0) + fits(1, 3, 0)
                + following(1, 0, 1) + gain(0) + worst() + sheet(0) + metres() + state() + follow(1) + lift(1) + lift(1)
                + sheet(1) + gain(1))
        self.assertEqual(answers(line), [1, 0, 1, -33, 1, 0, 1, 0, 1, 1, 1, -33, 1, 1, 2, 0, 1, 3, 0, 1, 1,
                                         4, 10, 7, 1, 2, 4, 5, 2, 1, 1, 1, 1, 1, 0, 1, -2, 1, -2, 1, -2])

    def test_whole_numbers_in_a_list(self):
        given = answers(start(long=7) + [4, 0, 5, 7, 6, 0, 7, 0, 8, 9, 0, 2, 0, 0, 1, 3, 0, 1, 1, 2, 0, 3, 4,
                                         10, 0, 0, 0, 10, 0, 3, 0, 11, 0, 0, 1, 12, 0, 0, 1, 13, 0, 15, 0, 16,
                                         17, 0, 18, 19, 14, 0])
        self.assertIs(type(given), list)
        self.assertEqual({type(number) for number in given}, {int})

    def test_200_calls(self):
        self.assertEqual(ask(start(), *[best(3)] * 199), [[0]] + [[3, 0, 1]] * 199)
        self.assertEqual(ask(*[start()] * 200), [[0]] * 200)


class Kept(unittest.TestCase):
    LINE = (start(lanes=2) + fault(0, 1, 2) + fault(1, 3, 4) + [3, 0] + coat(3) + stretches(0) + stretches(1)
            + plan(0) + total() + best(9) + [7, 1, 9, 0] + fault(0, 6, 8) + gain(0) + worst() + fits(0, 0, 0)
            + following(0, 3, 1) + stamp(0, 3, 1) + follow(1) + lift(0) + sheet(1) + metres() + state())

    def test_the_list_stays_as_it_was(self):
        line = list(self.LINE)
        answers(line)
        self.assertEqual(line, self.LINE)

    def test_the_same_list_twice_is_answered_alike(self):
        line = list(self.LINE)
        first = answers(line)
        kept = list(first)
        second = answers(line)
        self.assertEqual(first, second)
        first.clear()
        self.assertEqual(answers(line), kept)

    def test_each_line_is_a_new_object(self):
        answers(start() + stamp(0, 0, 0) + fault(0, 5, 6))
        self.assertEqual(answers(total()), [1, -11])
        self.assertEqual(ask(start(), state(), sheet(0), gain(0)), [[0], [10, 1, 0, 0], [-2], [-2]])

    def test_nothing_is_printed(self):
        shown = io.StringIO()
        with contextlib.redirect_stdout(shown), contextlib.redirect_stderr(shown):
            answers(list(self.LINE))
        self.assertEqual(shown.getvalue(), "")


if __name__ == "__main__":
    unittest.main()
