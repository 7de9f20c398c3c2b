"""How often the pattern at the values is done."""

import random
import unittest

from helper import (CHOSEN, LEAP, PATTERN, TIMES, ask, at_least, at_most, below, branch, last, loop, naive_pattern,
                    naive_times, old, put, random_branch, remainder, values)

RING = [old(1), old(2), old(3), old(0, 1)]


def keep(*numbers):
    return [old(counter, number) for counter, number in enumerate(numbers)]


def times(branches, *amounts):
    """The pattern at the values, and how often it's done (None: for ever)."""
    pattern, told = ask(loop(*branches), values(*amounts), PATTERN, TIMES)[2:]
    assert told == [0] or (told[0] == 1 and len(told) == 2)
    return pattern[1:], None if told == [0] else told[1]


class Refused(unittest.TestCase):
    def test_no_branch_is_chosen(self):
        up = loop(branch([at_most(0, 9)], old(0, 1)))
        self.assertEqual(ask(up, values(10), TIMES, values(9), TIMES)[2:], [[-4], [0], [1, 1]])

    def test_refusal_changes_nothing(self):
        up = loop(branch([at_most(0, 9)], old(0, 1)))
        self.assertEqual(ask(up, values(10), TIMES, CHOSEN, LEAP, values(8), LEAP)[2:],
                         [[-4], [0], [0], [0], [1, 1, 0, 2, 10]])


class Small(unittest.TestCase):
    def test_a_pattern_that_is_not_there_twice_is_done_once(self):
        turns = [branch([remainder(0, 4, 0)], old(0, 1)), branch([remainder(0, 4, 2)], old(0, 1)),
                 branch([], old(0, 1))]
        self.assertEqual(times(turns, 0), ([0], 1))

    def test_until_the_remainder_is_another_one(self):
        turns = [branch([remainder(0, 6, 5)], old(0, 1)), branch([], old(0, 1))]
        self.assertEqual([times(turns, value) for value in (0, 3, -6)], [([1], 5), ([1], 2), ([1], 5)])

    def test_the_last_pass_is_followed_whole(self):
        turns = [branch([remainder(0, 2, 0), at_most(0, 10)], old(0, 1)), branch([at_most(0, 10)], old(0, 1))]
        self.assertEqual(times(turns, 0), ([0, 1], 5))

    def test_values_handed_along_a_row(self):
        chain = [branch([at_most(0, 10)], old(1), old(2), old(3), put(5))]
        self.assertEqual(times(chain, 0, 0, 0, 20), ([0], 3))
        self.assertEqual(times(chain, 0, 0, 20, 20), ([0], 2))
        self.assertEqual(times(chain, 0, 0, 0, 0), ([0], None))
        self.assertEqual(times([branch([at_most(0, 4)], old(1), old(2), old(3), put(5))], 0, 0, 0, 0), ([0], 4))

    def test_two_remainders_along_a_ring(self):
        turns = [branch([remainder(0, 4, 3), remainder(0, 3, 2)], *RING), branch([], *RING)]
        self.assertEqual(times(turns, 0, 0, 0, 0), ([1], 44))
        self.assertEqual(times(turns, 0, 0, 0, 1), ([1], 43))


class LikeNaive(unittest.TestCase):
    def check(self, branches, amounts, most):
        pattern = naive_pattern(branches, amounts)
        if not pattern:
            return 0
        expected, behind = naive_times(branches, pattern, amounts, most)
        found, often = times(branches, *amounts)
        self.assertEqual(found, pattern)
        if expected < most:
            self.assertEqual(often, expected, (branches, amounts))
            self.assertEqual(last(loop(*branches), values(*amounts), LEAP),
                             [1, len(pattern)] + pattern + [expected] + behind)
        else:
            self.assertTrue(often is None or often >= most, (branches, amounts))
        return min(expected, most - 1)

    def test_long(self):
        swap = [branch([at_most(0, 30000), at_most(1, 20000)], old(1, 1), old(0)), branch([], old(0), old(1))]
        self.assertEqual(self.check(swap, [0, -10], 10 ** 5), 40003)
        ring = [branch([at_most(3, 9999)], *RING)]
        self.assertEqual(self.check(ring, [-7, 5, 3, 0], 10 ** 5), 39978)
        window = [branch([at_least(0, 70000), at_most(0, 70010), remainder(0, 6, 1)], old(0, 1)), branch([], old(0, 5))]
        self.assertEqual(self.check(window, [3], 10 ** 5), 14000)
        three = [branch([remainder(0, 3, 0)], old(0, 1), old(1, 2)),
                 branch([remainder(0, 3, 1)], old(0, 1), old(1, -1)),
                 branch([at_most(1, 20000)], old(0, 1), old(1))]
        self.assertEqual(self.check(three, [0, 0], 10 ** 5), 20000)

    def test_many(self):
        chance = random.Random(20)
        seen = [0, 0, 0]
        for place in range(4000):
            counters = chance.randint(1, 4)
            far = chance.choice([5, 60, 1000])
            branches = [random_branch(chance, counters, far, [0, 1, 1, 2, 3]) for place in range(chance.randint(1, 3))]
            amounts = [chance.randint(-far, far) for counter in range(counters)]
            often = self.check(branches, amounts, 700)
            seen[0 if often < 20 else 1 if often < 699 else 2] += 1
        self.assertTrue(min(seen) >= 100, seen)


class Large(unittest.TestCase):
    def test_one_more_and_one_less(self):
        self.assertEqual(times([branch([at_most(0, 999999)], old(0, 1))], -1000000), ([0], 2000000))
        self.assertEqual(times([branch([at_least(0, -999999)], old(0, -1))], 1000000), ([0], 2000000))

    def test_steps_that_do_not_fit(self):
        for step in (2, 3, 7, 98, 99):
            expected = (999999 + 1000000) // step + 1
            self.assertEqual(times([branch([at_most(0, 999999)], old(0, step))], -1000000), ([0], expected))
            self.assertEqual(times([branch([at_least(0, -999999)], old(0, -step))], 1000000), ([0], expected))

    def test_below(self):
        self.assertEqual(times([branch([below(0, 1, 999999)], *keep(2, 1))], -1000000, 1000000), ([0], 3000000))
        self.assertEqual(times([branch([below(0, 1, 999999)], *keep(0, -1))], -1000000, 1000000), ([0], 3000000))

    def test_along_a_ring(self):
        ring = [branch([at_most(0, 999999)], *RING)]
        self.assertEqual(times(ring, *[-1000000] * 4), ([0], 8000000))
        self.assertEqual(times(ring, -1000000, -1000000, 0, -1000000), ([0], 4000002))

    def test_two_remainders_along_a_ring(self):
        first = [remainder(0, 4, 3), remainder(0, 3, 2), at_least(0, 500000)]
        turns = [branch(first, *RING), branch([], *RING)]
        self.assertEqual(times(turns, 0, 0, 0, 0), ([1], 4 * 500003))

    def test_two_branches(self):
        turns = [branch([remainder(0, 2, 0), at_most(0, 999998)], old(0, 1)), branch([remainder(0, 2, 1)], old(0, 1))]
        self.assertEqual(times(turns, -1000000), ([0, 1], 1000000))
        self.assertEqual(times(turns, -999999), ([1, 0], 999999))

    def test_three_branches(self):
        limit = at_most(0, 999999)
        one = [branch([remainder(0, 3, 0), limit], old(0, 1)), branch([remainder(0, 3, 1)], old(0, 1)),
               branch([remainder(0, 3, 2)], old(0, 1))]
        self.assertEqual(times(one, -999999), ([0, 1, 2], 666667))
        other = [branch([remainder(0, 3, 0)], old(0, 1)), branch([remainder(0, 3, 1), limit], old(0, 1)),
                 branch([remainder(0, 3, 2)], old(0, 1))]
        self.assertEqual(times(other, -999999), ([0, 1, 2], 666666))

    def test_a_branch_ahead_ends_it(self):
        for number in (1, 0, -1):
            turns = [branch([at_least(0, 600000), below(1, 0, number)], *keep(0, 0)), branch([], *keep(1, 0))]
            self.assertEqual(times(turns, -1000000, 700000), ([1], 1700000 - number))

    def test_a_branch_ahead_is_stepped_over(self):
        for least, most, expected in ((500000, 500049, 5051), (500001, 500040, None), (500049, 500049, 5051)):
            turns = [branch([at_least(0, least), at_most(0, most)], old(0)), branch([], old(0, 99))]
            self.assertEqual(times(turns, 0), ([1], expected))

    def test_the_soonest_of_several_ends(self):
        tests = [at_most(0, 900000), at_least(1, -800000), below(0, 1, 999998)]
        self.assertEqual(times([branch(tests, *keep(1, -1))], 0, 0), ([0], 500000))
        self.assertEqual(times([branch(tests[:2], *keep(1, -1))], 0, 0), ([0], 800001))
        self.assertEqual(times([branch(tests[:1], *keep(1, -1))], 0, 0), ([0], 900001))


class ForEver(unittest.TestCase):
    def test_nothing_ends_it(self):
        self.assertEqual(times([branch([], old(0, 1))], 0), ([0], None))
        self.assertEqual(times([branch([at_most(0, 5)], old(0, -99))], 5), ([0], None))
        self.assertEqual(times([branch([at_least(0, 5)], old(0, 99))], 5), ([0], None))

    def test_nothing_changes(self):
        self.assertEqual(times([branch([at_most(0, 5), at_least(0, 5)], old(0))], 5), ([0], None))
        self.assertEqual(times([branch([at_most(0, 5)], put(5))], -9), ([0], None))

    def test_both_change_alike(self):
        self.assertEqual(times([branch([below(0, 1, 0)], *keep(7, 7))], 3, 3), ([0], None))
        self.assertEqual(times([branch([below(0, 0, 0)], *keep(7, 7))], 3, 3), ([0], None))

    def test_remainders_stay(self):
        for divisor in (2, 3, 4, 6):
            self.assertEqual(times([branch([remainder(0, divisor, 1)], old(0, -divisor))], 1), ([0], None))
            self.assertEqual(times([branch([remainder(0, divisor, 1)], old(0, -divisor + 1))], 1), ([0], 1))

    def test_branches_in_turn(self):
        two = [branch([remainder(0, 2, 0)], old(0, 1)), branch([], old(0, 1))]
        self.assertEqual(times(two, -4), ([0, 1], None))
        three = [branch([remainder(0, 3, 0)], old(0, 1)), branch([remainder(0, 3, 1)], old(0, 1)),
                 branch([], old(0, 1))]
        self.assertEqual(times(three, -4), ([2, 0, 1], None))

    def test_a_branch_ahead_grows_away(self):
        turns = [branch([at_least(0, 1), below(0, 1, 99)], *keep(0, 0)), branch([], *keep(2, 3))]
        self.assertEqual(times(turns, 100, 0), ([1], 1))
        self.assertEqual(times(turns, 100000, 0), ([1], 99901))
        self.assertEqual(times([turns[0], branch([], *keep(3, 2))], 100, 0), ([1], None))


if __name__ == "__main__":
    unittest.main()
