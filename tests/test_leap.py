"""Leaps: their phases, the values behind them, and when nothing is leapt."""

import unittest

from helper import (CHOSEN, LEAP, PATTERN, TIMES, ask, at_most, beyond_within_a_pattern, branch, last, loop, old, put,
                    remainder, three_leaps, values)


class Leapt(unittest.TestCase):
    def test_one_behind_the_other(self):
        up_then_up = loop(branch([at_most(0, 9)], old(0, 1), old(1)), branch([at_most(1, 4)], old(0), old(1, 1)))
        self.assertEqual(ask(up_then_up, LEAP, LEAP, LEAP)[1:],
                         [[1, 1, 0, 10, 10, 0], [1, 1, 1, 5, 10, 5], [0]])

    def test_three_in_turn(self):
        turns = loop(branch([remainder(0, 3, 0), at_most(0, 29)], old(0, 1), old(1, 1)),
                     branch([remainder(0, 3, 1)], old(0, 1), old(1, 10)),
                     branch([remainder(0, 3, 2)], old(0, 1), put(5)))
        self.assertEqual(ask(turns, LEAP, CHOSEN)[1:], [[1, 3, 0, 1, 2, 10, 30, 5], [0]])
        self.assertEqual(ask(turns, values(1, 0), LEAP, LEAP)[2:],
                         [[1, 3, 1, 2, 0, 9, 28, 6], [1, 1, 1, 1, 29, 16]])

    def test_the_values_are_those_then_from_now_on(self):
        up = loop(branch([at_most(0, 9)], old(0, 1)))
        self.assertEqual(ask(up, LEAP, CHOSEN, PATTERN, TIMES, values(7), LEAP)[1:],
                         [[1, 1, 0, 10, 10], [0], [0], [-4], [0], [1, 1, 0, 3, 10]])

    def test_along_a_ring(self):
        ring = loop(branch([at_most(0, 999999)], old(1), old(2), old(3), old(0, 1)))
        self.assertEqual(last(ring, values(-1000000, -1000000, 0, -1000000), LEAP),
                         [1, 1, 0, 4000002, 1000000, 0, 1, 1])
        self.assertEqual(last(ring, values(*[-1000000] * 4), LEAP), [1, 1, 0, 8000000] + [1000000] * 4)

    def test_values_handed_along_a_row(self):
        row = loop(branch([at_most(3, 999999)], put(-9), old(0, 1), old(1, 2), old(3, 1)))
        self.assertEqual(last(row, values(7, 7, 7, -1000000), LEAP), [1, 1, 0, 2000000, -9, -8, -6, 1000000])
        self.assertEqual(last(row, values(7, 5, 3, 999999), LEAP), [1, 1, 0, 1, -9, 8, 7, 1000000])
        self.assertEqual(last(row, values(7, 5, 3, 999998), LEAP), [1, 1, 0, 2, -9, -8, 10, 1000000])


class NotLeapt(unittest.TestCase):
    def test_no_branch_is_chosen(self):
        up = loop(branch([at_most(0, 9)], old(0, 1)))
        self.assertEqual(ask(up, values(10), LEAP, LEAP, CHOSEN)[2:], [[0], [0], [0]])

    def test_for_ever(self):
        turns = loop(branch([remainder(0, 2, 0)], old(0, 1)), branch([], old(0, 1)))
        self.assertEqual(ask(turns, values(7), LEAP, LEAP, CHOSEN, PATTERN)[2:],
                         [[2, 2, 1, 0], [2, 2, 1, 0], [1, 1], [2, 1, 0]])


class Beyond(unittest.TestCase):
    def test_the_farthest_value_is_not_beyond(self):
        for sign in (1, -1):
            self.assertEqual(ask(*three_leaps(sign, 0), LEAP, LEAP, TIMES, LEAP, CHOSEN)[2:],
                             [[1, 1, 0, 1030000, -30000, 102030000, 40101, sign],
                              [1, 1, 1, 102030000, -30000, 0, 10101010101, sign],
                              [1, 10101010101],
                              [1, 1, 2, 10101010101, -30000, 0, 0, sign * 10 ** 12],
                              [0]])

    def test_one_farther_is_refused_and_nothing_is_changed(self):
        for sign in (1, -1):
            self.assertEqual(ask(*three_leaps(sign, 1), LEAP, LEAP, LEAP, CHOSEN, PATTERN, TIMES, LEAP,
                                 values(0, 0, 1, 2), LEAP)[4:],
                             [[-7], [1, 2], [1, 2], [1, 10101010101], [-7], [0],
                              [1, 1, 0, 30000, -30000, 2970000, 1, 2]])

    def test_for_ever_is_looked_at_first(self):
        up = loop(branch([], old(0, 99)))
        self.assertEqual(last(up, values(1000000), LEAP), [2, 1, 0])

    def test_values_within_a_pattern_are_not_looked_at(self):
        told = ask(*beyond_within_a_pattern(), *[LEAP] * 9)[2:]
        self.assertEqual(told[:6:2], [[1, 1, 0, 10000, 999901, 0, 0], [1, 1, 0, 10 ** 6, 99999901, 0, 1],
                                      [1, 1, 0, 10 ** 8, 9999999901, 0, 2]])
        self.assertEqual(told[1::2][:3], [[1, 1, 1, 1, 999901, 10 ** 6, 1], [1, 1, 1, 1, 99999901, 10 ** 8, 2],
                                          [1, 1, 1, 1, 9999999901, 10 ** 10, 3]])
        self.assertEqual(told[6:], [[1, 1, 0, 10 ** 10, 999999999901, 0, 3],
                                    [1, 2, 1, 2, 10, 999999999911, 0, 13], [0]])


if __name__ == "__main__":
    unittest.main()
