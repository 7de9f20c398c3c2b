"""Phases: the leaps done one behind the other, what ends them, and how often each branch is done."""

import unittest

from helper import (CHOSEN, DONE, DOWN, FOR_EVER_BEHIND_EIGHT, GIVEN, LEAP, PATTERN, PHASES, SWAP, TIMES, UP_THEN_UP,
                    ask, at_least, at_most, beyond_within_a_pattern, branch, ending_behind, last, loop, old, remainder,
                    split_phases, three_leaps, values)

class Over(unittest.TestCase):
    def test_no_phases(self):
        self.assertEqual(ask(UP_THEN_UP, values(10, 5), PHASES, DONE)[2:], [[0, 0, 0, 10, 5], [0, 0, 0]])
        self.assertEqual(ask(PHASES, DONE), [[0, 0, 0, 0], [0, 0]])

    def test_one_phase(self):
        self.assertEqual(ask(UP_THEN_UP, values(10, -3), PHASES, DONE)[2:], [[0, 8, 1, 1, 1, 8, 10, 5], [0, 0, 8]])

    def test_two_phases(self):
        self.assertEqual(ask(UP_THEN_UP, PHASES, DONE)[1:], [[0, 15, 2, 1, 0, 10, 1, 1, 5, 10, 5], [0, 10, 5]])

    def test_rounds_are_the_branches_of_the_pattern_times_how_often(self):
        turns = loop(branch([remainder(0, 3, 0), at_most(0, 29)], old(0, 1)), branch([remainder(0, 3, 1)], old(0, 1)),
                     branch([remainder(0, 3, 2)], old(0, 1)))
        self.assertEqual(ask(turns, PHASES, DONE)[1:], [[0, 30, 1, 3, 0, 1, 2, 10, 30], [0, 10, 10, 10]])
        self.assertEqual(ask(turns, values(1), PHASES, DONE)[2:],
                         [[0, 29, 3, 3, 1, 2, 0, 9, 1, 1, 1, 1, 2, 1, 30], [0, 9, 10, 10]])

    def test_a_branch_twice_in_a_pattern_is_done_twice_as_often(self):
        turns = loop(branch([remainder(0, 3, 1), at_most(0, 29)], old(0, 1)), branch([at_most(0, 29)], old(0, 1)))
        self.assertEqual(ask(turns, PHASES, DONE)[1:], [[0, 30, 1, 3, 1, 0, 1, 10, 30], [0, 10, 20]])

    def test_branches_that_are_never_done_are_told(self):
        idle = branch([at_most(0, -5)], old(0))
        up = branch([at_most(0, 9)], old(0, 1))
        self.assertEqual(last(loop(idle, up, idle), DONE), [0, 0, 10, 0])
        self.assertEqual(last(loop(up, up, idle), DONE), [0, 10, 0, 0])

    def test_from_the_values_on(self):
        self.assertEqual(ask(UP_THEN_UP, LEAP, PHASES, DONE)[2:], [[0, 5, 1, 1, 1, 5, 10, 5], [0, 0, 5]])

    def test_large_numbers_of_rounds(self):
        far = loop(branch([at_most(0, 999999)], old(0, 1), old(1, 99)), branch([at_least(1, 1)], old(0), old(1, -1)))
        self.assertEqual(ask(far, values(-1000000, 7), PHASES, DONE)[2:],
                         [[0, 200000007, 2, 1, 0, 2000000, 1, 1, 198000007, 1000000, 0], [0, 2000000, 198000007]])


class Many(unittest.TestCase):
    def test_up_to_eight_phases_over_goes_ahead_of_many(self):
        branches = [0, 2, 1, 2, 0, 2, 1, 2]
        for rounds in range(9):
            told = [number for place in branches[:rounds] for number in (1, place, 1)]
            done = [branches[:rounds].count(number) for number in (0, 1, 2)]
            self.assertEqual(ask(ending_behind(rounds), PHASES, DONE)[1:],
                             [[0, rounds, rounds] + told + [rounds], [0] + done])

    def test_more_than_eight(self):
        told = [number for place in (0, 2, 1, 2, 0, 2, 1, 2) for number in (1, place, 1)]
        for rounds in (9, 10, 13):
            self.assertEqual(ask(ending_behind(rounds), PHASES, DONE)[1:], [[3, 8, 8] + told + [8], [3, 2, 2, 4]])

    def test_at_the_ninth(self):
        self.assertEqual(last(ending_behind(9), values(1), PHASES)[:3], [0, 8, 8])
        self.assertEqual(last(ending_behind(9), values(0), PHASES)[:3], [3, 8, 8])

    def test_many_goes_ahead_of_never(self):
        self.assertEqual(ask(FOR_EVER_BEHIND_EIGHT, values(-1), PHASES, DONE)[2:],
                         [[3, 8, 8, 1, 2, 1, 1, 0, 1, 1, 2, 1, 1, 1, 1, 1, 2, 1, 1, 0, 1, 1, 2, 1, 1, 1, 1, 7],
                          [3, 2, 2, 4]])


class Never(unittest.TestCase):
    def test_from_here_on(self):
        always = loop(branch([], old(0, 1)))
        self.assertEqual(ask(always, values(-7), PHASES, DONE)[2:], [[1, 0, 0, -7], [1, 0]])

    def test_behind_seven_phases(self):
        self.assertEqual(ask(FOR_EVER_BEHIND_EIGHT, PHASES, DONE)[1:],
                         [[1, 7, 7, 1, 0, 1, 1, 2, 1, 1, 1, 1, 1, 2, 1, 1, 0, 1, 1, 2, 1, 1, 1, 1, 7], [1, 2, 2, 3]])

    def test_the_pattern_for_ever_is_not_counted(self):
        turns = loop(branch([at_most(0, 3)], old(0, 1)), branch([remainder(0, 2, 0)], old(0, 1)), branch([], old(0, 1)))
        self.assertEqual(ask(turns, PHASES, DONE)[1:], [[1, 4, 1, 1, 0, 4, 4], [1, 4, 0, 0]])


class Far(unittest.TestCase):
    def test_the_phase_that_goes_far_counts_still(self):
        phases = [1, 1, 1000044, 1, 0, 1, 1, 1, 100004354, 1, 0, 1, 1, 1, 9900431048, 1, 0, 1, 1, 1, 980142673754]
        self.assertEqual(ask(loop(SWAP, DOWN), values(45, -1), PHASES, DONE)[2:],
                         [[2, 990144109203, 7] + phases + [-999999, 97034123701649], [2, 3, 990144109200]])

    def test_the_farthest_value_is_not_far(self):
        for sign in (1, -1):
            phases = [1, 0, 1030000, 1, 1, 102030000, 1, 2, 10101010101]
            self.assertEqual(ask(*three_leaps(sign, 0), PHASES, DONE)[2:],
                             [[0, 10204070101, 3] + phases + [-30000, 0, 0, sign * 10 ** 12],
                              [0, 1030000, 102030000, 10101010101]])

    def test_far_goes_ahead_of_over(self):
        for sign in (1, -1):
            phases = [1, 0, 1030000, 1, 1, 102030000, 1, 2, 10101010101]
            told = ask(*three_leaps(sign, 1), PHASES, DONE)[2:]
            self.assertEqual(told[0], [2, 10204070101, 3] + phases + [-30000, 0, 0, sign * (10 ** 12 + 1)])
            self.assertEqual(told[1], [2, 1030000, 102030000, 10101010101])

    def test_far_goes_ahead_of_many(self):
        told = split_phases(last(loop(SWAP, DOWN), values(-999999, 45), PHASES))
        self.assertEqual([told[0], len(told[2]), told[2][0], told[3][0]], [2, 8, ([0], 1), -999999])
        self.assertGreater(told[3][1], 10 ** 12)

    def test_far_goes_ahead_of_never(self):
        grows = loop(branch([at_most(0, -999999), at_most(2, 2)], old(1), old(0, 2), old(2, 1)),
                     branch([at_least(0, -999998)], old(0, -1), old(1, 99), old(2)),
                     branch([], old(0), old(1), old(2)))
        self.assertEqual(last(grows, values(45, -1, 0), DONE), [2, 3, 990144109200, 0])
        self.assertEqual(last(grows, values(45, -1, 1), DONE), [1, 2, 10001435446, 0])

    def test_values_within_a_pattern_are_not_looked_at(self):
        phases = [1, 0, 10 ** 4, 1, 1, 1, 1, 0, 10 ** 6, 1, 1, 1, 1, 0, 10 ** 8, 1, 1, 1, 1, 0, 10 ** 10, 2, 1, 2, 10]
        self.assertEqual(ask(*beyond_within_a_pattern(), PHASES, DONE)[2:],
                         [[0, 10101010023, 8] + phases + [999999999911, 0, 13], [0, 10101010000, 13, 10]])


class NothingIsChanged(unittest.TestCase):
    def test_phases_and_done_leave_the_loop_and_the_values(self):
        far = [loop(SWAP, DOWN), values(45, -1)]
        many = [ending_behind(20), values(3)]
        never = [FOR_EVER_BEHIND_EIGHT, values(5)]
        for start in ([UP_THEN_UP, values(4, 1)], far, many, never, beyond_within_a_pattern()):
            first = ask(*start, GIVEN, CHOSEN, PATTERN, TIMES)[2:]
            for call in (PHASES, DONE):
                told = ask(*start, call, GIVEN, CHOSEN, PATTERN, TIMES, call)[2:]
                self.assertEqual(told[1:5], first)
                self.assertEqual(told[0], told[5])
            self.assertEqual(first[0], start[0][3:] + start[1][2:])


if __name__ == "__main__":
    unittest.main()
