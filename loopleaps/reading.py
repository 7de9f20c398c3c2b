"""Reads calls, loops and values from lists of whole numbers."""

from loopleaps.rounds import AT_MOST, BELOW, GIVEN_COUNTER, GIVEN_NUMBER, REMAINDER

MOST_BRANCHES = 3
MOST_TESTS = 3
MOST_IN_TESTS = 999999
MOST_IN_MOVES = 99
MOST_IN_VALUES = 1000000
DIVISORS = (2, 3, 4, 6)


class NotWhole(Exception):
    """The numbers are not whole what they are read as."""


class Reader:
    """Goes through a list of whole numbers, which it never changes, from the first one on."""

    def __init__(self, numbers):
        self.numbers = numbers
        self.place = 0

    def at_end(self):
        """Whether all numbers are read."""
        return self.place >= len(self.numbers)

    def number(self):
        """The next number."""
        if self.at_end():
            raise NotWhole()
        found = self.numbers[self.place]
        self.place += 1
        return found

    def number_within(self, least, most):
        """The next number, which is to be from least to most."""
        found = self.number()
        if found < least or found > most:
            raise NotWhole()
        return found

    def row(self):
        """The next row: how many numbers it has stands ahead of it."""
        length = self.number()
        found = self.numbers[self.place:self.place + length]
        self.place += length
        return found

    def finish(self):
        """Asks that nothing be left over."""
        if not self.at_end():
            raise NotWhole()


def read_test(reader, counters):
    """One test of a branch."""
    kind = reader.number_within(AT_MOST, REMAINDER)
    counter = reader.number_within(0, counters - 1)
    if kind == REMAINDER:
        divisor = reader.number()
        if divisor not in DIVISORS:
            raise NotWhole()
        return (kind, counter, divisor, reader.number_within(0, divisor - 1))
    if kind == BELOW:
        other = reader.number_within(0, counters - 1)
        return (kind, counter, other, reader.number_within(-MOST_IN_TESTS, MOST_IN_TESTS))
    return (kind, counter, reader.number_within(-MOST_IN_TESTS, MOST_IN_TESTS))


def read_part(reader, counters):
    """What a move gives one counter."""
    kind = reader.number_within(GIVEN_NUMBER, GIVEN_COUNTER)
    if kind == GIVEN_NUMBER:
        return (kind, reader.number_within(-MOST_IN_MOVES, MOST_IN_MOVES))
    counter = reader.number_within(0, counters - 1)
    return (kind, counter, reader.number_within(-MOST_IN_MOVES, MOST_IN_MOVES))


def read_branch(reader, counters):
    """One branch: how many tests, they, its move."""
    length = reader.number_within(0, MOST_TESTS)
    tests = [read_test(reader, counters) for place in range(length)]
    move = [read_part(reader, counters) for counter in range(counters)]
    return (tuple(tests), tuple(move))


def read_loop(numbers, counters):
    """The loop of so many counters that the numbers are; raises NotWhole if they are none."""
    reader = Reader(numbers)
    length = reader.number_within(1, MOST_BRANCHES)
    branches = [read_branch(reader, counters) for place in range(length)]
    reader.finish()
    return tuple(branches)


def read_values(numbers, counters):
    """The values of so many counters that the numbers are; raises NotWhole if they are none."""
    reader = Reader(numbers)
    values = [reader.number_within(-MOST_IN_VALUES, MOST_IN_VALUES) for counter in range(counters)]
    reader.finish()
    return values
