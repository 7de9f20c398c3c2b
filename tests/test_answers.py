"""How calls are read and answers given back, and the example of the document."""

import unittest

from helper import CHOSEN, LEAP, PATTERN, TIMES, ask, loop, old, branch, at_most, raw_loop, values
from loopleaps.leaps import answers

ONE_THEN_OTHER = [2, 1, 0, 0, 9, 1, 0, 1, 1, 1, 0, 1, 0, 1, 4, 1, 0, 0, 1, 1, 1]
THREE_IN_TURN = [2, 2, 2, 0, 1, 0, 0, 0, 20, 1, 0, 3, 1, 1, 0, 1, 0, 1, 20, 1, 0, 0, 1, 1, 3]
ALWAYS = [1, 0, 1, 0, 1]


class Example(unittest.TestCase):
    def test_one_then_other(self):
        self.assertEqual(
            ask(raw_loop(2, ONE_THEN_OTHER), PATTERN, TIMES, LEAP, PATTERN, TIMES, LEAP, PATTERN, TIMES, LEAP),
            [[2], [1, 0], [1, 10], [1, 1, 0, 10, 10, 0], [1, 1], [1, 5], [1, 1, 1, 5, 10, 5], [0], [-4], [0]])

    def test_three_in_turn(self):
        self.assertEqual(
            ask(raw_loop(2, THREE_IN_TURN), PATTERN, TIMES, LEAP, CHOSEN),
            [[2], [2, 0, 1], [1, 7], [1, 2, 0, 1, 7, 21, 21], [0]])

    def test_always(self):
        self.assertEqual(ask(raw_loop(1, ALWAYS), PATTERN, TIMES, LEAP), [[1], [1, 0], [0], [2, 1, 0]])


class NewObject(unittest.TestCase):
    def test_loop_is_never_chosen(self):
        self.assertEqual(ask(CHOSEN, PATTERN, TIMES, LEAP), [[0], [0], [-4], [0]])

    def test_loop_is_not_chosen_at_any_values(self):
        for value in (-1000000, -1, 0, 1, 1000000):
            self.assertEqual(ask(values(value), CHOSEN), [[0], [0]])

    def test_there_is_one_counter(self):
        self.assertEqual(ask(values(), values(1, 2), values(5)), [[-1], [-1], [0]])


class Reading(unittest.TestCase):
    def test_how_many_numbers_stands_ahead_of_each_answer(self):
        self.assertEqual(answers([2]), [1, 0])
        self.assertEqual(answers([4]), [1, -4])
        self.assertEqual(answers([0, 1, 5] + ALWAYS + [2, 3, 4, 5]),
                         [1, 1, 2, 1, 0, 2, 1, 0, 1, 0, 3, 2, 1, 0])

    def test_empty_rows(self):
        self.assertEqual(answers([0, 1, 0, 1, 0, 2]), [1, -1, 1, -1, 1, 0])

    def test_refused_rows_are_passed_over_whole(self):
        self.assertEqual(answers([0, 9, 3, 4, 4, 4, 1, 3, 5, 5, 5, 2]), [1, -2, 1, -1, 1, 0])

    def test_twenty_calls(self):
        self.assertEqual(answers([4] * 20), [1, -4] * 20)
        self.assertEqual(answers((([1, 10] + [10 ** 18] * 10) * 20)), [1, -1] * 20)

    def test_what_is_handed_in_stays(self):
        calls = raw_loop(2, ONE_THEN_OTHER) + values(3, 4) + CHOSEN + PATTERN + TIMES + LEAP + LEAP
        calls += values(1) + raw_loop(7, [1, 2])
        before = list(calls)
        answers(calls)
        self.assertEqual(calls, before)

    def test_nothing_is_kept(self):
        first = raw_loop(2, ONE_THEN_OTHER) + values(3, 4) + LEAP + LEAP + CHOSEN
        told = answers(first)
        self.assertEqual(answers(first), told)
        self.assertEqual(ask(CHOSEN, values(1, 1), values(1)), [[0], [-1], [0]])
        self.assertEqual(answers(first), told)

    def test_answers_are_a_new_list_of_ints(self):
        calls = raw_loop(1, ALWAYS) + CHOSEN + LEAP
        told = answers(calls)
        self.assertEqual({type(number) for number in told}, {int})
        told.clear()
        self.assertEqual(answers(calls), [1, 1, 2, 1, 0, 3, 2, 1, 0])


class OnlyLeapsChange(unittest.TestCase):
    def test_asking_changes_nothing(self):
        up = loop(branch([at_most(0, 9)], old(0, 1)))
        told = ask(up, values(4), CHOSEN, PATTERN, TIMES, CHOSEN, PATTERN, TIMES, LEAP)
        self.assertEqual(told, [[1], [0]] + [[1, 0], [1, 0], [1, 6]] * 2 + [[1, 1, 0, 6, 10]])


if __name__ == "__main__":
    unittest.main()
