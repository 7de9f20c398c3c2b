"""The call run: the loop done round by round."""

import unittest

from helper import (CHOSEN, GIVEN, LEAP, PATTERN, PHASES, TIMES, UP_THEN_UP, ask, at_least, at_most,
                    beyond_within_a_pattern, branch, last, loop, old, put, remainder, run, values)

ALWAYS = loop(branch([], old(0, 1)))


def up_to(rounds):
    return loop(branch([at_most(0, rounds - 1)], old(0, 1)))


class HowManyRounds(unittest.TestCase):
    def test_refused(self):
        for most in (-1, -2, 2001, 2002, 10 ** 18, -10 ** 18):
            self.assertEqual(last(ALWAYS, run(most)), [-3])
            self.assertEqual(last(run(most)), [-3])

    def test_edges(self):
        self.assertEqual(last(ALWAYS, values(-5), run(0)), [2, 0, -5])
        self.assertEqual(last(ALWAYS, values(-5), run(1)), [2, 1, -4])
        self.assertEqual(last(ALWAYS, values(-5), run(1999)), [2, 1999, 1994])
        self.assertEqual(last(ALWAYS, values(-5), run(2000)), [2, 2000, 1995])

    def test_refusal_changes_nothing(self):
        for most in (-1, 2001, 10 ** 18, -10 ** 18):
            self.assertEqual(ask(UP_THEN_UP, values(3, 2), run(most), GIVEN, CHOSEN, TIMES, run(8))[2:],
                             [[-3], UP_THEN_UP[3:] + [3, 2], [1, 0], [1, 7], [2, 8, 10, 3]])

    def test_calls_behind_it_are_read(self):
        self.assertEqual(ask(run(3), run(-1), CHOSEN, run(0)), [[0, 0, 0], [-3], [0], [0, 0, 0]])


class Over(unittest.TestCase):
    def test_at_the_beginning(self):
        for most in (0, 1, 2000):
            self.assertEqual(last(run(most)), [0, 0, 0])
            self.assertEqual(last(up_to(5), values(9), run(most)), [0, 0, 9])

    def test_with_its_last_round(self):
        for rounds in (1, 2, 7, 1999, 2000):
            self.assertEqual(last(up_to(rounds), run(rounds)), [0, rounds, rounds])
            self.assertEqual(last(up_to(rounds), run(rounds - 1)), [2, rounds - 1, rounds - 1])
        self.assertEqual(last(up_to(2001), run(2000)), [2, 2000, 2000])

    def test_ahead_of_its_last_round(self):
        for most in (6, 7, 2000):
            self.assertEqual(last(up_to(5), run(most)), [0, 5, 5])

    def test_over_several_branches(self):
        self.assertEqual([last(UP_THEN_UP, run(most)) for most in (9, 10, 11, 12, 14, 15, 16)],
                         [[2, 9, 9, 0], [2, 10, 10, 0], [2, 11, 10, 1], [2, 12, 10, 2], [2, 14, 10, 4], [0, 15, 10, 5],
                          [0, 15, 10, 5]])

    def test_moves_by_the_values_ahead(self):
        turns = loop(branch([remainder(0, 2, 0), at_most(1, 9)], old(1, 1), old(0, 3)),
                     branch([at_most(1, 9)], put(4), old(1, 2)))
        self.assertEqual([last(turns, run(most)) for most in range(6)],
                         [[2, 0, 0, 0], [2, 1, 1, 3], [2, 2, 4, 5], [2, 3, 6, 7], [2, 4, 8, 9], [0, 5, 10, 11]])


def near_beyond(sign, more, rounds):
    """Five leaps, behind which counter 1 is sign * (10 ** 12 - more); then it's 1 farther in each of so many rounds."""
    away = at_least(0, -29999) if sign == 1 else at_most(0, 29999)
    three = loop(branch([away], old(0, -sign), old(1, 99 * sign), old(2)),
                 branch([at_most(2, 1)], old(1, sign * (2 + more)), put(sign * (1 - more)), old(2, 1)),
                 branch([at_most(2, 1 + rounds)], old(0), old(1, sign), old(2, 1)))
    return [three, values(sign * 1000000, sign * (30100 - more), 0)] + [LEAP] * 5


class Beyond(unittest.TestCase):
    def then(self, sign, amount, steps):
        return [-30000 * sign, sign * amount, 2 + steps]

    def test_the_farthest_value_is_not_beyond(self):
        for sign in (1, -1):
            for more in (0, 1, 5):
                near = near_beyond(sign, more, more)
                self.assertEqual(last(*near, run(0)), [0 if more == 0 else 2, 0] + self.then(sign, 10 ** 12 - more, 0))
                for most in (more, more + 1, 2000):
                    self.assertEqual(last(*near, run(most)), [0, more] + self.then(sign, 10 ** 12, more))

    def test_there_it_stops(self):
        for sign in (1, -1):
            for more in (0, 1, 5):
                near = near_beyond(sign, more, more + 3)
                told = [1, more + 1] + self.then(sign, 10 ** 12 + 1, more + 1)
                for most in (more + 1, more + 2, more + 3, more + 4, 2000):
                    self.assertEqual(last(*near, run(most)), told)
                self.assertEqual(last(*near, run(more)), [2, more] + self.then(sign, 10 ** 12, more))

    def test_there_it_stops_though_the_loop_is_over(self):
        for sign in (1, -1):
            for more in (0, 1, 5):
                near = near_beyond(sign, more, more + 1)
                told = [1, more + 1] + self.then(sign, 10 ** 12 + 1, more + 1)
                for most in (more + 1, more + 2, 2000):
                    self.assertEqual(last(*near, run(most)), told)

    def test_values_within_a_pattern_are_looked_at(self):
        start = beyond_within_a_pattern() + [LEAP] * 7
        self.assertEqual(last(*start, PHASES), [0, 20, 1, 2, 1, 2, 10, 999999999911, 0, 13])
        self.assertEqual(last(*start, run(20)), [1, 3, 999999999902, 10 ** 12 + 1, 5])
        self.assertEqual(last(*start, run(2)), [2, 2, 999999999902, 0, 4])


class NothingIsChanged(unittest.TestCase):
    def test_run_leaves_the_loop_and_the_values(self):
        for start in ([UP_THEN_UP, values(3, 2)], [ALWAYS, values(7)], [up_to(5), values(9)]):
            first = ask(*start, GIVEN, CHOSEN, PATTERN, TIMES, PHASES)[2:]
            self.assertEqual(first[0], start[0][3:] + start[1][2:])
            for most in (0, 1, 5, 2000):
                told = ask(*start, run(most), GIVEN, CHOSEN, PATTERN, TIMES, PHASES, run(most))[2:]
                self.assertEqual(told[1:-1], first)
                self.assertEqual(told[0], told[-1])

    def test_run_up_to_beyond_leaves_the_values(self):
        near = near_beyond(1, 2, 9)
        told = ask(*near, run(2000), GIVEN, run(2000), LEAP, run(2))[7:]
        self.assertEqual(told, [[1, 3, -30000, 10 ** 12 + 1, 5], near[0][3:] + [-30000, 10 ** 12 - 2, 2],
                                [1, 3, -30000, 10 ** 12 + 1, 5], [-7], [2, 2, -30000, 10 ** 12, 4]])


if __name__ == "__main__":
    unittest.main()
