"""How calls are read and answers given back, and the example of the document."""

import unittest

from helper import (CHOSEN, DONE, GIVEN, GO, LEAP, PATTERN, PHASES, TIMES, UP_THEN_UP, ask, at_most, branch, loop, old,
                    raw_loop, run, values)
from loopleaps.leaps import answers

ONE_THEN_OTHER = [2, 1, 0, 0, 9, 1, 0, 1, 1, 1, 0, 1, 0, 1, 4, 1, 0, 0, 1, 1, 1]
THREE_IN_TURN = [2, 2, 2, 0, 1, 0, 0, 0, 20, 1, 0, 3, 1, 1, 0, 1, 0, 1, 20, 1, 0, 0, 1, 1, 3]
ALWAYS = [1, 0, 1, 0, 1]


class Example(unittest.TestCase):
    def test_one_then_other(self):
        self.assertEqual(
            ask(raw_loop(2, ONE_THEN_OTHER), PATTERN, TIMES, LEAP, PATTERN, TIMES, LEAP, PATTERN, TIMES, LEAP),
            [[2], [1, 0], [1, 10], [1, 1, 0, 10, 10, 0], [1, 1], [1, 5], [1, 1, 1, 5, 10, 5], [0], [-4], [0]])

    def test_one_then_other_whole(self):
        self.assertEqual(
            ask(raw_loop(2, ONE_THEN_OTHER), PATTERN, TIMES, PHASES, DONE, run(12), LEAP, GO),
            [[2], [1, 0], [1, 10], [0, 15, 2, 1, 0, 10, 1, 1, 5, 10, 5], [0, 10, 5], [2, 12, 10, 2],
             [1, 1, 0, 10, 10, 0], [5, 10, 5]])

    def test_three_in_turn(self):
        self.assertEqual(
            ask(raw_loop(2, THREE_IN_TURN), PATTERN, TIMES, PHASES, LEAP, CHOSEN),
            [[2], [2, 0, 1], [1, 7], [0, 14, 1, 2, 0, 1, 7, 21, 21], [1, 2, 0, 1, 7, 21, 21], [0]])

    def test_always(self):
        self.assertEqual(ask(raw_loop(1, ALWAYS), PATTERN, TIMES, PHASES, LEAP, GO),
                         [[1], [1, 0], [0], [1, 0, 0, 0], [2, 1, 0], [-5]])


class NewObject(unittest.TestCase):
    def test_loop_is_never_chosen(self):
        self.assertEqual(ask(CHOSEN, PATTERN, TIMES, LEAP), [[0], [0], [-4], [0]])
        self.assertEqual(ask(PHASES, DONE, GO, run(0), run(5)), [[0, 0, 0, 0], [0, 0], [0, 0], [0, 0, 0], [0, 0, 0]])

    def test_loop_and_value_as_told(self):
        self.assertEqual(ask(GIVEN), [[1, 2, 0, 0, -1, 1, 0, 0, 1, 0, 0, 0]])

    def test_loop_is_not_chosen_at_any_values(self):
        for value in (-1000000, -1, 0, 1, 1000000):
            self.assertEqual(ask(values(value), CHOSEN, run(7)), [[0], [0], [0, 0, value]])

    def test_there_is_one_counter(self):
        self.assertEqual(ask(values(), values(1, 2), values(5)), [[-1], [-1], [0]])


class Reading(unittest.TestCase):
    def test_how_many_numbers_stands_ahead_of_each_answer(self):
        self.assertEqual(answers([2]), [1, 0])
        self.assertEqual(answers([4]), [1, -4])
        self.assertEqual(answers([0, 1, 5] + ALWAYS + [2, 3, 4, 5]),
                         [1, 1, 2, 1, 0, 2, 1, 0, 1, 0, 3, 2, 1, 0])
        self.assertEqual(answers([6, 7, 8, 9, -1, 9, 3, 10]),
                         [4, 0, 0, 0, 0, 2, 0, 0, 2, 0, 0, 1, -3, 3, 0, 0, 0, 12, 1, 2, 0, 0, -1, 1, 0, 0, 1, 0, 0, 0])
        self.assertEqual(answers([0, 1, 5] + ALWAYS + [8]), [1, 1, 1, -5])

    def test_empty_rows(self):
        self.assertEqual(answers([0, 1, 0, 1, 0, 2]), [1, -1, 1, -1, 1, 0])

    def test_refused_rows_are_passed_over_whole(self):
        self.assertEqual(answers([0, 9, 3, 4, 4, 4, 1, 3, 5, 5, 5, 2]), [1, -2, 1, -1, 1, 0])

    def test_twenty_calls(self):
        self.assertEqual(answers([4] * 20), [1, -4] * 20)
        self.assertEqual(answers((([1, 10] + [10 ** 18] * 10) * 20)), [1, -1] * 20)
        self.assertEqual(answers((([0, 10 ** 18, 100] + [-10 ** 18] * 100) * 20)), [1, -2] * 20)
        self.assertEqual(answers([10] * 20), [12, 1, 2, 0, 0, -1, 1, 0, 0, 1, 0, 0, 0] * 20)
        self.assertEqual(answers((raw_loop(1, ALWAYS) + [9, 2000] * 19)), [1, 1] + [3, 2, 2000, 2000] * 19)

    def test_what_is_handed_in_stays(self):
        calls = raw_loop(2, ONE_THEN_OTHER) + values(3, 4) + CHOSEN + PATTERN + TIMES + LEAP + LEAP
        calls += values(1) + raw_loop(7, [1, 2]) + PHASES + DONE + GO + run(3) + run(-3) + GIVEN
        before = list(calls)
        answers(calls)
        self.assertEqual(calls, before)

    def test_nothing_is_kept(self):
        first = raw_loop(2, ONE_THEN_OTHER) + values(3, 4) + LEAP + LEAP + CHOSEN
        told = answers(first)
        self.assertEqual(answers(first), told)
        self.assertEqual(ask(CHOSEN, values(1, 1), values(1)), [[0], [-1], [0]])
        self.assertEqual(ask(GIVEN), [[1, 2, 0, 0, -1, 1, 0, 0, 1, 0, 0, 0]])
        self.assertEqual(answers(first), told)

    def test_answers_are_a_new_list_of_ints(self):
        calls = UP_THEN_UP + PHASES + DONE + run(4) + LEAP + GO + GIVEN
        self.assertEqual({type(number) for number in answers(calls)}, {int})
        calls = raw_loop(1, ALWAYS) + CHOSEN + LEAP
        told = answers(calls)
        self.assertEqual({type(number) for number in told}, {int})
        told.clear()
        self.assertEqual(answers(calls), [1, 1, 2, 1, 0, 3, 2, 1, 0])


class WhatChanges(unittest.TestCase):
    def test_asking_changes_nothing(self):
        up = loop(branch([at_most(0, 9)], old(0, 1)))
        told = ask(up, values(4), CHOSEN, PATTERN, TIMES, CHOSEN, PATTERN, TIMES, LEAP)
        self.assertEqual(told, [[1], [0]] + [[1, 0], [1, 0], [1, 6]] * 2 + [[1, 1, 0, 6, 10]])

    def test_every_call_behind_every_other(self):
        asking = [CHOSEN, PATTERN, TIMES, PHASES, DONE, run(3), run(2001), run(-1), GIVEN]
        refused = [raw_loop(0, ALWAYS), raw_loop(3, ALWAYS), values(), values(1, 2, 1000001)]
        first = [ask(UP_THEN_UP, values(7, 1), call)[2] for call in asking]
        for call in asking + refused:
            self.assertEqual(ask(UP_THEN_UP, values(7, 1), call, *asking)[3:], first)
        for call in (LEAP, GO, values(9, 1), raw_loop(1, ALWAYS)):
            self.assertNotEqual(ask(UP_THEN_UP, values(7, 1), call, GIVEN)[3], first[-1])


if __name__ == "__main__":
    unittest.main()
