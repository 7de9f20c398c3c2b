"""The call given: the loop and the values, as numbers."""

import random
import unittest

from helper import (CHOSEN, GIVEN, GO, LEAP, ask, at_least, at_most, below, branch, last, loop, loop_numbers, old, put,
                    random_branch, raw_loop, remainder, values)

EVERY_KIND = [branch([at_most(0, -999999), at_least(1, 999999), below(1, 0, -5)], put(-99), old(0, 99)),
              branch([remainder(1, 6, 5)], old(0, 1), old(1, -1)), branch([], old(0), put(7))]


class Given(unittest.TestCase):
    def test_the_new_object(self):
        self.assertEqual(last(GIVEN), [1, 2, 0, 0, -1, 1, 0, 0, 1, 0, 0, 0])

    def test_every_kind_of_test_and_move(self):
        self.assertEqual(ask(loop(*EVERY_KIND), values(-1000000, 1000000), GIVEN)[2],
                         [3, 3, 0, 0, -999999, 1, 1, 999999, 2, 1, 0, -5, 0, -99, 1, 0, 99,
                          1, 3, 1, 6, 5, 1, 0, 1, 1, 1, -1, 0, 1, 0, 0, 0, 7, -1000000, 1000000])

    def test_values_are_zero_behind_loop(self):
        for counters in (1, 2, 3, 4):
            numbers = loop_numbers([branch([], *[put(5)] * counters)])
            self.assertEqual(ask(values(3), raw_loop(counters, numbers), GIVEN)[2], numbers + [0] * counters)

    def test_what_was_handed_in_is_given_back(self):
        chance = random.Random(4)
        for place in range(300):
            counters = chance.randint(1, 4)
            numbers = loop_numbers([random_branch(chance, counters, 999999, [0, 1, 2, 3])
                                    for place in range(chance.randint(1, 3))])
            amounts = [chance.randint(-1000000, 1000000) for counter in range(counters)]
            self.assertEqual(last(raw_loop(counters, numbers), values(*amounts), GIVEN), numbers + amounts)

    def test_the_longest_loop(self):
        tests = [remainder(3, 6, 5), below(3, 3, -999999), below(0, 3, 999999)]
        numbers = loop_numbers([branch(tests, old(3, -99), old(3, 99), old(0), old(1))] * 3)
        self.assertEqual(last(raw_loop(4, numbers), values(1, -2, 3, -4), GIVEN), numbers + [1, -2, 3, -4])

    def test_behind_leap_and_go(self):
        ups = [branch([at_most(0, 9)], old(0, 1), old(1)), branch([at_most(1, 4)], old(0), old(1, 1))]
        self.assertEqual(ask(loop(*ups), LEAP, GIVEN, GO, GIVEN)[2::2],
                         [loop_numbers(ups) + [10, 0], loop_numbers(ups) + [10, 5]])

    def test_behind_refusals(self):
        numbers = loop_numbers(EVERY_KIND)
        for refused in (raw_loop(0, [1, 0, 1, 0, 1]), raw_loop(5, []), raw_loop(1, [1, 0, 1, 0]), raw_loop(2, []),
                        values(), values(1), values(1, 2, 3), values(1, 1000001), values(-1000001, 1)):
            self.assertEqual(ask(raw_loop(2, numbers), values(8, 9), refused, GIVEN)[3], numbers + [8, 9])
            self.assertEqual(ask(refused, GIVEN)[1][:1], [1])

    def test_it_changes_nothing(self):
        told = ask(loop(*EVERY_KIND), values(8, 9), GIVEN, GIVEN, CHOSEN, GIVEN)
        self.assertEqual(told[2:], [told[2], told[2], [1, 2], told[2]])


if __name__ == "__main__":
    unittest.main()
