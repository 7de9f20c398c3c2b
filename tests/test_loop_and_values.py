"""The calls loop and values: what is taken, what is refused, and that a refusal changes nothing."""

import unittest

from helper import (CHOSEN, LEAP, TIMES, ask, at_least, at_most, below, branch, last, loop, loop_numbers, old, put,
                    raw_loop, remainder, values)

KEEP = old(0)


def answer_to(counters, *branches):
    return last(raw_loop(counters, loop_numbers(branches)))


def answer_to_test(test, counters=2):
    return answer_to(counters, branch([test], *[old(counter) for counter in range(counters)]))


def answer_to_part(part, counters=2):
    return answer_to(counters, branch([], *[part] * counters))


class LoopTaken(unittest.TestCase):
    def test_how_many_branches(self):
        for length in (1, 2, 3):
            self.assertEqual(answer_to(1, *[branch([], KEEP)] * length), [length])

    def test_one_to_four_counters(self):
        for counters in (1, 2, 3, 4):
            self.assertEqual(answer_to_part(put(7), counters), [1])
            self.assertEqual(answer_to_test(at_most(counters - 1, 0), counters), [1])

    def test_up_to_three_tests(self):
        for length in (0, 1, 2, 3):
            self.assertEqual(answer_to(1, branch([at_most(0, 1)] * length, KEEP)), [1])

    def test_longest_loop(self):
        tests = [remainder(3, 6, 5), below(3, 3, -999999), below(0, 3, 999999)]
        numbers = loop_numbers([branch(tests, old(3, -99), old(3, 99), old(0), old(1))] * 3)
        self.assertEqual(len(numbers), 76)
        self.assertEqual(last(raw_loop(4, numbers)), [3])

    def test_edges_of_tests(self):
        for number in (-999999, 999999):
            for test in (at_most(0, number), at_least(1, number), below(0, 1, number), below(1, 1, number)):
                self.assertEqual(answer_to_test(test), [1], test)

    def test_edges_of_remainders(self):
        for divisor in (2, 3, 4, 6):
            for rest in range(divisor):
                self.assertEqual(answer_to_test(remainder(1, divisor, rest)), [1])

    def test_edges_of_moves(self):
        for number in (-99, 0, 99):
            self.assertEqual(answer_to_part(put(number)), [1])
            self.assertEqual(answer_to_part(old(1, number)), [1])

    def test_it_is_the_loop_from_now_on_and_all_values_are_zero(self):
        down = loop(branch([at_least(0, -3), at_most(1, 0)], old(0, -1), old(1)))
        up = loop(branch([at_most(0, 4)], old(0, 1), old(1), old(2)))
        self.assertEqual(ask(up, values(1, 2, 3), down, LEAP, up, LEAP),
                         [[1], [0], [1], [1, 1, 0, 4, -4, 0], [1], [1, 1, 0, 5, 5, 0, 0]])


class LoopRefused(unittest.TestCase):
    def test_how_many_counters(self):
        for counters in (0, 5, -1, 10 ** 18, -10 ** 18):
            self.assertEqual(last(raw_loop(counters, [1, 0, 1, 0, 1])), [-2])

    def test_counters_are_looked_at_first(self):
        self.assertEqual(last(raw_loop(0, [])), [-2])
        self.assertEqual(last(raw_loop(5, [9, 9])), [-2])
        self.assertEqual(last(raw_loop(4, [9, 9])), [-1])

    def test_how_many_branches(self):
        for length in (0, 4):
            self.assertEqual(answer_to(1, *[branch([], KEEP)] * length), [-1])
        self.assertEqual(last(raw_loop(1, [-1])), [-1])

    def test_how_many_tests(self):
        self.assertEqual(answer_to(1, branch([at_most(0, 1)] * 4, KEEP)), [-1])
        self.assertEqual(last(raw_loop(1, [1, -1, 1, 0, 1])), [-1])

    def test_every_list_cut_short_or_with_more_behind(self):
        tests = [at_most(0, 1), at_least(1, 2), remainder(0, 4, 3)]
        numbers = loop_numbers([branch(tests, put(1), old(0, 1)), branch([below(0, 1, 2)], old(1), put(2))])
        self.assertEqual(last(raw_loop(2, numbers)), [2])
        for length in range(len(numbers)):
            self.assertEqual(last(raw_loop(2, numbers[:length])), [-1], length)
        for more in ([0], [1, 0, 0], [10 ** 18], [0] * (100 - len(numbers))):
            self.assertEqual(last(raw_loop(2, numbers + more)), [-1])

    def test_loop_of_another_number_of_counters(self):
        numbers = loop_numbers([branch([], old(0), old(1))])
        self.assertEqual([last(raw_loop(counters, numbers)) for counters in (1, 2, 3)], [[-1], [1], [-1]])

    def test_kinds_of_tests(self):
        for test in ([4, 0, 0], [-1, 0, 0], [4, 0, 1, 0], [-1, 0, 2, 0], [10 ** 18, 0, 0]):
            self.assertEqual(answer_to_test(test), [-1], test)

    def test_counters_of_tests(self):
        for counter in (-1, 2, 10 ** 18, -10 ** 18):
            for test in (at_most(counter, 0), at_least(counter, 0), below(counter, 0, 0), below(0, counter, 0),
                         remainder(counter, 2, 0)):
                self.assertEqual(answer_to_test(test), [-1], test)

    def test_numbers_of_tests(self):
        for number in (-1000000, 1000000, 10 ** 18, -10 ** 18):
            for test in (at_most(0, number), at_least(0, number), below(0, 1, number)):
                self.assertEqual(answer_to_test(test), [-1], test)

    def test_divisors(self):
        for divisor in (-2, -1, 0, 1, 5, 7, 8, 12, 10 ** 18):
            self.assertEqual(answer_to_test(remainder(0, divisor, 0)), [-1], divisor)

    def test_rests(self):
        for divisor in (2, 3, 4, 6):
            for rest in (-1, divisor, divisor + 1, 10 ** 18):
                self.assertEqual(answer_to_test(remainder(0, divisor, rest)), [-1])

    def test_kinds_of_parts(self):
        for part in ([2, 0, 0], [-1, 0, 0], [2, 0], [-1, 0]):
            self.assertEqual(answer_to_part(part), [-1], part)

    def test_counters_of_parts(self):
        for counter in (-1, 2, 10 ** 18):
            self.assertEqual(answer_to_part(old(counter)), [-1])

    def test_numbers_of_parts(self):
        for number in (-100, 100, 10 ** 18, -10 ** 18):
            self.assertEqual(answer_to_part(put(number)), [-1])
            self.assertEqual(answer_to_part(old(0, number)), [-1])

    def test_a_fault_in_the_last_branch(self):
        self.assertEqual(answer_to(1, branch([], KEEP), branch([], KEEP), branch([], put(100))), [-1])

    def test_refusal_changes_nothing(self):
        up = loop(branch([at_most(0, 9)], old(0, 1), old(1)))
        other = loop_numbers([branch([], put(1), put(1), put(1))])
        for refused in (raw_loop(5, other), raw_loop(3, other + [0]), raw_loop(3, other[:-1]), raw_loop(2, other)):
            told = ask(up, values(3, 4), refused, CHOSEN, TIMES, LEAP, values(1, 2))
            self.assertIn(told[2], ([-1], [-2]))
            self.assertEqual(told[3:], [[1, 0], [1, 7], [1, 1, 0, 7, 10, 4], [0]])


class Values(unittest.TestCase):
    def setUp(self):
        self.loop = loop(branch([at_most(0, 10), at_least(1, 0)], old(0), put(-1)))

    def test_they_are_the_values_from_now_on(self):
        self.assertEqual(ask(self.loop, values(3, 4), LEAP, values(5, 6), LEAP),
                         [[1], [0], [1, 1, 0, 1, 3, -1], [0], [1, 1, 0, 1, 5, -1]])

    def test_edges(self):
        self.assertEqual(ask(self.loop, values(-1000000, 1000000), LEAP)[1:], [[0], [1, 1, 0, 1, -1000000, -1]])
        self.assertEqual(last(self.loop, values(1000000, -1000000)), [0])

    def test_one_to_four(self):
        for counters in (1, 2, 3, 4):
            taken = loop(branch([], *[put(0)] * counters))
            for length in range(11):
                self.assertEqual(last(taken, values(*[1] * length)), [0] if length == counters else [-1])

    def test_too_far(self):
        for number in (1000001, -1000001, 10 ** 18, -10 ** 18):
            self.assertEqual(last(self.loop, values(number, 0)), [-1])
            self.assertEqual(last(self.loop, values(0, number)), [-1])

    def test_refusal_changes_nothing(self):
        for refused in (values(), values(9), values(9, 9, 9), values(9, 1000001), values(-1000001, 9)):
            self.assertEqual(ask(self.loop, values(3, 4), refused, CHOSEN, LEAP)[2:],
                             [[-1], [1, 0], [1, 1, 0, 1, 3, -1]])


if __name__ == "__main__":
    unittest.main()
