"""The pattern at some values, how often it is done, and the values behind that.

Why a pattern can be leapt: done again and again, it gives each counter a number, or adds a
number to the value that some counter had ahead of the pass. After as many passes as there
are counters, every value comes either from a number alone, or from counters that hand their
values round in rings. A ring is at most as long as there are counters, so every RINGS[n]
passes each of n counters grows by the same amount. Every REMAINDERS times as many passes,
each grows by a multiple of REMAINDERS, and leaves what it left, divided by 2, 3, 4 or 6.
"""

from loopleaps.rounds import REMAINDER, chosen_branch, holds, moved, room_left

LONGEST = 3
# By how many counters there are: what every number from 1 up to it divides.
RINGS = (1, 1, 2, 6, 12)
# What 2, 3, 4 and 6 divide.
REMAINDERS = 12


def branches_ahead(loop, values, most):
    """The branches chosen by the next rounds, so many at most."""
    row = []
    while len(row) < most:
        number = chosen_branch(loop, values)
        if number is None:
            break
        row.append(number)
        values = moved(loop[number][1], values)
    return row


def pattern_at(loop, values):
    """The pattern at the values; empty, if no branch is chosen."""
    row = branches_ahead(loop, values, 2 * LONGEST)
    for length in range(1, len(row) // 2 + 1):
        if row[:length] == row[length:2 * length]:
            return row[:length]
    return row[:1]


def sooner(first, second):
    """The smaller one of two numbers, where None is never."""
    if first is None:
        return second
    if second is None:
        return first
    return min(first, second)


def span_of_test(test, here, later):
    """From which turn on a test holds, and from which it holds no more (None is never).

    The values are those here at turn 0, those later at turn 1, and go on so evenly; their
    remainders stay.
    """
    if test[0] == REMAINDER:
        return (0, None if holds(test, here) else 0)
    room = room_left(test, here)
    growth = room_left(test, later) - room
    if growth < 0:
        return (0, max(0, room // -growth + 1))
    if room >= 0:
        return (0, None)
    # The least turn at which room and turn * growth together are no longer below 0.
    return (0, 0) if growth == 0 else (-(room // growth), None)


def span_of_branch(branch, here, later):
    """From which turn on all tests of a branch hold, and from which no more; as of a test."""
    start = 0
    end = None
    for test in branch[0]:
        span = span_of_test(test, here, later)
        start = max(start, span[0])
        end = sooner(end, span[1])
    return (start, end)


def first_miss(loop, number, here, later):
    """The first turn at which the branch, chosen at turn 0, is not chosen; None is never."""
    miss = span_of_branch(loop[number], here, later)[1]
    for branch in loop[:number]:
        start, end = span_of_branch(branch, here, later)
        if end is None or start < end:
            miss = sooner(miss, start)
    return miss


def path_followed(loop, pattern, values, rounds):
    """The values ahead of each round as long as the pattern is followed, so many at most."""
    path = []
    while len(path) < rounds:
        number = pattern[len(path) % len(pattern)]
        if chosen_branch(loop, values) != number:
            break
        path.append(values)
        values = moved(loop[number][1], values)
    return path


def turn_growths(path, length, counters):
    """How much each counter grows in a turn, for each place of a pattern of that length."""
    start = counters * length
    ring = RINGS[counters] * length
    growths = []
    for place in range(start, start + length):
        ahead = path[place + ring]
        growths.append([(later - here) * REMAINDERS for here, later in zip(path[place], ahead)])
    return growths


def times_done(loop, pattern, values):
    """How often the pattern is done from the values on; None is for ever."""
    length = len(pattern)
    counters = len(values)
    turn = RINGS[counters] * REMAINDERS
    path = path_followed(loop, pattern, values, (counters + turn) * length)
    if len(path) < (counters + turn) * length:
        return len(path) // length
    growths = turn_growths(path, length, counters)
    often = None
    for place in range(counters * length, len(path)):
        here = path[place]
        later = [value + growth for value, growth in zip(here, growths[place % length])]
        turns = first_miss(loop, pattern[place % length], here, later)
        if turns is not None:
            often = sooner(often, place // length + turn * turns)
    return often


def values_followed(loop, pattern, values, often):
    """The values behind the pattern done so often, pass by pass."""
    for number in pattern * often:
        values = moved(loop[number][1], values)
    return values


def values_behind(loop, pattern, values, often):
    """The values behind the pattern done so often, however often that is."""
    counters = len(values)
    if often <= counters:
        return values_followed(loop, pattern, values, often)
    rings, rest = divmod(often - counters, RINGS[counters])
    near = values_followed(loop, pattern, values, counters + rest)
    ahead = values_followed(loop, pattern, near, RINGS[counters])
    return [here + (later - here) * rings for here, later in zip(near, ahead)]
