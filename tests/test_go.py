"""The call go: all leaps up to the loop's end, and when it's refused."""

import unittest

from helper import (CHOSEN, DONE, DOWN, FOR_EVER_BEHIND_EIGHT, GIVEN, GO, LEAP, PHASES, SWAP, TIMES, UP_THEN_UP, ask,
                    beyond_within_a_pattern, branch, ending_behind, last, loop, old, run, three_leaps, values)


class Gone(unittest.TestCase):
    def test_rounds_and_the_values_then(self):
        self.assertEqual(last(UP_THEN_UP, GO), [15, 10, 5])
        self.assertEqual(last(UP_THEN_UP, values(-3, 2), GO), [16, 10, 5])

    def test_the_values_are_those_then_from_now_on(self):
        self.assertEqual(ask(UP_THEN_UP, GO, GIVEN, CHOSEN, PHASES, run(9), GO, values(9, 4), GO)[1:],
                         [[15, 10, 5], UP_THEN_UP[3:] + [10, 5], [0], [0, 0, 0, 10, 5], [0, 0, 10, 5], [0, 10, 5],
                          [0], [2, 10, 5]])

    def test_the_loop_stays(self):
        told = ask(UP_THEN_UP, GO, values(8, 4), PHASES)
        self.assertEqual(told[3], [0, 3, 2, 1, 0, 2, 1, 1, 1, 10, 5])

    def test_over_already(self):
        self.assertEqual(ask(GO, GIVEN), [[0, 0], [1, 2, 0, 0, -1, 1, 0, 0, 1, 0, 0, 0]])
        self.assertEqual(ask(UP_THEN_UP, values(77, 5), GO, GIVEN)[2:], [[0, 77, 5], UP_THEN_UP[3:] + [77, 5]])

    def test_behind_some_leaps(self):
        self.assertEqual(ask(UP_THEN_UP, LEAP, GO, GIVEN)[2:], [[5, 10, 5], UP_THEN_UP[3:] + [10, 5]])

    def test_eight_phases(self):
        for rounds in range(9):
            self.assertEqual(ask(ending_behind(rounds), GO, GIVEN)[1:],
                             [[rounds, rounds], ending_behind(rounds)[3:] + [rounds]])

    def test_the_farthest_value(self):
        for sign in (1, -1):
            self.assertEqual(ask(*three_leaps(sign, 0), GO, GIVEN)[2],
                             [10204070101, -30000, 0, 0, sign * 10 ** 12])

    def test_values_beyond_within_a_pattern(self):
        start = beyond_within_a_pattern()
        self.assertEqual(ask(*start, GO, GIVEN)[2:],
                         [[10101010023, 999999999911, 0, 13], start[0][3:] + [999999999911, 0, 13]])


class Refused(unittest.TestCase):
    def check(self, *start):
        """It's refused, and nothing is changed by that."""
        first = ask(*start, GIVEN, TIMES, PHASES, DONE, run(50))[len(start):]
        told = ask(*start, GO, GIVEN, TIMES, PHASES, DONE, run(50), GO, LEAP)[len(start):]
        self.assertEqual(told, [[-5]] + first + [[-5]] + [last(*start, LEAP)])
        self.assertEqual(told[1][-len(start[1]) + 2:], start[1][2:])

    def test_never(self):
        self.check(loop(branch([], old(0, 1))), values(17))
        self.check(FOR_EVER_BEHIND_EIGHT, values(3))

    def test_many(self):
        self.check(ending_behind(9), values(0))
        self.check(ending_behind(20), values(2))
        self.check(FOR_EVER_BEHIND_EIGHT, values(-1))

    def test_far(self):
        self.check(loop(SWAP, DOWN), values(45, -1))

    def test_far_though_the_loop_is_over(self):
        for sign in (1, -1):
            self.check(*three_leaps(sign, 1))

    def test_leaps_and_go_behind_a_refusal(self):
        self.assertEqual(ask(ending_behind(9), GO, LEAP, GO, GIVEN)[1:],
                         [[-5], [1, 1, 0, 1, 1], [8, 9], ending_behind(9)[3:] + [9]])


if __name__ == "__main__":
    unittest.main()
