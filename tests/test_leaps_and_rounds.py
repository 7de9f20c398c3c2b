"""Leaps and rounds against each other, where both can be done."""

import random
import unittest

from helper import (DONE, GIVEN, GO, LEAP, PHASES, ask, last, loop, naive_leaps, naive_run, random_branch, run,
                    split_phases, values)

# More passes than this are not followed one by one.
MOST = 2100
OVER, NEVER, FAR, MANY = 0, 1, 2, 3


def random_start(chance):
    counters = chance.randint(1, 4)
    far = chance.choice([3, 20, 300])
    branches = [random_branch(chance, counters, far, [1, 1, 2, 2, 3]) for place in range(chance.randint(1, 3))]
    return branches, [chance.randint(-far, far) for counter in range(counters)]


class Both(unittest.TestCase):
    def check_leaps(self, branches, amounts, answer):
        """The phases told are those that are followed one by one; only then is it True."""
        told = split_phases(answer)
        end, phases, behind = naive_leaps(branches, amounts, MOST)
        self.assertEqual(told[2][:len(phases)], phases)
        if len(told[2]) > len(phases):
            # Done more often than it was followed.
            self.assertEqual(end, NEVER)
            self.assertGreaterEqual(told[2][len(phases)][1], MOST)
            return False
        self.assertEqual([told[0], told[3]], [end, behind])
        return True

    def check_run(self, branches, amounts, answer):
        """Round by round it's the same."""
        end, rounds, phases, behind = split_phases(answer)
        start = [loop(*branches), values(*amounts)]
        if rounds > 2000 or end == FAR:
            return
        due = [0 if end == OVER else 2, rounds] + behind
        self.assertEqual(last(*start, run(rounds)), due)
        if end == OVER:
            self.assertEqual(last(*start, run(2000)), due)
            if rounds > 0:
                self.assertEqual(last(*start, run(rounds - 1))[:2], [2, rounds - 1])

    def check_rest(self, branches, amounts, answer):
        """done and go tell the same, and leaps done one by one."""
        end, rounds, phases, behind = split_phases(answer)
        start = [loop(*branches), values(*amounts)]
        given = start[0][3:]
        done = [sum(pattern.count(number) * often for pattern, often in phases) for number in range(len(branches))]
        self.assertEqual(last(*start, DONE), [end] + done)
        self.assertEqual(rounds, sum(done))
        self.assertEqual(ask(*start, GO, GIVEN)[2:],
                         [[rounds] + behind, given + behind] if end == OVER else [[-5], given + amounts])
        if end != FAR:
            leapt = ask(*start, *[LEAP] * len(phases), GIVEN)[2:]
            self.assertEqual([(told[2:2 + told[1]], told[2 + told[1]]) for told in leapt[:-1]], phases)
            self.assertEqual(leapt[-1], given + behind)

    def test_leaps_against_rounds(self):
        chance = random.Random(7)
        seen = {}
        for place in range(5000):
            branches, amounts = random_start(chance)
            answer = last(loop(*branches), values(*amounts), PHASES)
            self.check_run(branches, amounts, answer)
            self.check_rest(branches, amounts, answer)
            if self.check_leaps(branches, amounts, answer):
                kind = (answer[0], min(answer[2], 3))
                seen[kind] = seen.get(kind, 0) + 1
        for kind in ((OVER, 0), (OVER, 1), (OVER, 2), (OVER, 3), (NEVER, 0), (NEVER, 1), (NEVER, 2), (MANY, 3)):
            self.assertGreaterEqual(seen.get(kind, 0), 20, (kind, seen))

    def test_run_against_rounds(self):
        chance = random.Random(8)
        for place in range(1500):
            branches, amounts = random_start(chance)
            for most in (0, 1, chance.randint(2, 40), chance.choice([100, 300, 2000])):
                self.assertEqual(last(loop(*branches), values(*amounts), run(most)), naive_run(branches, amounts, most))


if __name__ == "__main__":
    unittest.main()
