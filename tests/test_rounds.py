"""Tests, moves, the branch that is chosen, and the pattern at the values."""

import itertools
import unittest

from helper import (CHOSEN, LEAP, PATTERN, at_least, at_most, below, branch, last, loop, naive_pattern, old, put,
                    remainder, values)


def is_chosen(test, *amounts):
    told = last(loop(branch([test], *[put(0)] * len(amounts))), values(*amounts), CHOSEN)
    assert told in ([0], [1, 0])
    return told == [1, 0]


class Tests(unittest.TestCase):
    def test_at_most(self):
        self.assertEqual([is_chosen(at_most(1, 5), 9, value) for value in (-7, 4, 5, 6)], [True, True, True, False])

    def test_at_least(self):
        self.assertEqual([is_chosen(at_least(1, 5), 0, value) for value in (-7, 4, 5, 6)], [False, False, True, True])

    def test_below_takes_both_together(self):
        self.assertEqual([is_chosen(below(0, 1, 3), value, 10) for value in (12, 13, 14)], [True, True, False])
        self.assertEqual([is_chosen(below(1, 0, -3), 10, value) for value in (6, 7, 8)], [True, True, False])

    def test_below_itself(self):
        self.assertEqual([is_chosen(below(0, 0, number), 5) for number in (-1, 0, 1)], [False, True, True])

    def test_remainder(self):
        for divisor in (2, 3, 4, 6):
            for value in range(-14, 15):
                rest = (value + 24) % divisor
                for other in range(divisor):
                    self.assertEqual(is_chosen(remainder(0, divisor, other), value), other == rest)

    def test_remainder_of_minus_one(self):
        self.assertTrue(is_chosen(remainder(0, 3, 2), -1))
        self.assertFalse(is_chosen(remainder(0, 3, 1), -1))


class Chosen(unittest.TestCase):
    def test_first_branch_whose_tests_all_hold(self):
        three = loop(branch([at_least(0, 1), at_most(0, 5), remainder(0, 2, 1)], put(0)),
                     branch([at_least(0, 3)], put(0)), branch([at_most(0, 8)], put(0)))
        expected = {0: 2, 1: 0, 2: 2, 3: 0, 4: 1, 5: 0, 6: 1, 7: 1, -1: 2}
        for value, number in expected.items():
            self.assertEqual(last(three, values(value), CHOSEN), [1, number])

    def test_without_tests_always(self):
        for value in (-1000000, 0, 1000000):
            self.assertEqual(last(loop(branch([at_most(0, -5)], put(0)), branch([], put(1))), values(value), CHOSEN),
                             [1, 0 if value < -5 else 1])

    def test_none(self):
        self.assertEqual(last(loop(branch([at_most(0, 0)], put(0)), branch([at_least(0, 2)], put(0))), values(1),
                              CHOSEN), [0])


class Moves(unittest.TestCase):
    def test_all_at_once_by_the_values_ahead(self):
        once = loop(branch([at_least(3, 1)], old(1, 1), old(2, 2), old(0, -3), put(0)))
        self.assertEqual(last(once, values(10, 20, 30, 1), LEAP), [1, 1, 0, 1, 21, 32, 7, 0])

    def test_swap(self):
        swap = loop(branch([at_least(2, 1)], old(1), old(0), old(2, -1)))
        self.assertEqual(last(swap, values(5, 8, 3), LEAP), [1, 1, 0, 3, 8, 5, 0])
        self.assertEqual(last(swap, values(5, 8, 1000), LEAP), [1, 1, 0, 1000, 5, 8, 0])
        self.assertEqual(last(swap, values(5, 8, 999999), LEAP), [1, 1, 0, 999999, 8, 5, 0])

    def test_several_from_one(self):
        once = loop(branch([at_least(2, 1)], old(1, 7), old(1, -7), put(-99)))
        self.assertEqual(last(once, values(5, 8, 3), LEAP), [1, 1, 0, 1, 15, 1, -99])


class Patterns(unittest.TestCase):
    def test_one_branch(self):
        up = loop(branch([at_most(0, 9)], old(0, 1)))
        self.assertEqual(last(up, PATTERN), [1, 0])
        self.assertEqual(last(up, values(9), PATTERN), [1, 0])
        self.assertEqual(last(up, values(10), PATTERN), [0])

    def test_two_branches(self):
        turns = loop(branch([remainder(0, 2, 0)], old(0, 1)), branch([], old(0, 1)))
        self.assertEqual(last(turns, PATTERN), [2, 0, 1])
        self.assertEqual(last(turns, values(-1), PATTERN), [2, 1, 0])

    def test_three_branches(self):
        turns = loop(branch([remainder(0, 3, 0)], old(0, 1)), branch([remainder(0, 3, 2)], old(0, 1)),
                     branch([], old(0, 1)))
        self.assertEqual(last(turns, PATTERN), [3, 0, 2, 1])
        self.assertEqual(last(turns, values(-1), PATTERN), [3, 1, 0, 2])

    def test_three_with_one_twice(self):
        turns = loop(branch([remainder(0, 3, 1)], old(0, 1)), branch([], old(0, 1)))
        self.assertEqual(last(turns, PATTERN), [3, 1, 0, 1])
        self.assertEqual(last(turns, values(2), PATTERN), [1, 1])

    def test_one_twice_goes_ahead_of_three(self):
        turns = loop(branch([remainder(0, 3, 0)], old(0, 1)), branch([], old(0, 1)))
        self.assertEqual(last(turns, PATTERN), [3, 0, 1, 1])
        self.assertEqual(last(turns, values(1), PATTERN), [1, 1])

    def test_no_row_is_there_twice(self):
        turns = loop(branch([remainder(0, 4, 0)], old(0, 1)), branch([remainder(0, 4, 2)], old(0, 1)),
                     branch([], old(0, 1)))
        self.assertEqual(last(turns, PATTERN), [1, 0])

    def test_fewer_than_six_rounds(self):
        for rounds in range(8):
            tests = [at_most(0, rounds - 1)]
            two = loop(branch(tests + [remainder(0, 2, 0)], old(0, 1)), branch(tests, old(0, 1)))
            three = loop(branch(tests + [remainder(0, 3, 0)], old(0, 1)),
                         branch(tests + [remainder(0, 3, 1)], old(0, 1)), branch(tests, old(0, 1)))
            none = [0] if rounds == 0 else [1, 0]
            self.assertEqual(last(two, PATTERN), [2, 0, 1] if rounds >= 4 else none, rounds)
            self.assertEqual(last(three, PATTERN), [3, 0, 1, 2] if rounds >= 6 else none, rounds)

    def test_branches_behind_the_sixth_round_are_not_looked_at(self):
        turns = loop(branch([remainder(0, 3, 0), at_most(0, 5)], old(0, 1)),
                     branch([remainder(0, 3, 1), at_most(0, 5)], old(0, 1)), branch([], old(0, 1)))
        self.assertEqual(last(turns, PATTERN), [3, 0, 1, 2])
        self.assertEqual(last(turns, values(1), PATTERN), [1, 1])

    def test_the_rounds_ahead_go_on_by_the_moves(self):
        for move in itertools.product((-2, -1, 1, 2, 3), repeat=2):
            branches = [branch([remainder(0, 4, 1), below(1, 0, 5)], old(0, move[0]), old(1, 1)),
                        branch([remainder(1, 3, 2)], old(1, 1), old(0, 1)),
                        branch([at_most(0, 4)], old(0, move[1]), old(1, -2))]
            for value in range(-6, 7):
                pattern = naive_pattern(branches, [value, 2])
                self.assertEqual(last(loop(*branches), values(value, 2), PATTERN), [len(pattern)] + pattern)


if __name__ == "__main__":
    unittest.main()
