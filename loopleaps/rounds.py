"""Tests, moves and rounds of a loop.

A loop is a tuple of branches, a branch a tuple of its tests and its move. A test is a
tuple as told in numbers: (0, counter, number), (1, counter, number), (2, counter, other,
number) or (3, counter, m, r). A move is a tuple of what each counter is given: (0, number)
or (1, counter, number). Values are a list that nobody changes: each round makes a new one.
"""

AT_MOST = 0
AT_LEAST = 1
BELOW = 2
REMAINDER = 3

GIVEN_NUMBER = 0
GIVEN_COUNTER = 1

FARTHEST = 1000000000000

# What a loop done round by round comes to.
ENDED = 0
BEYOND = 1
GOES_ON = 2


def room_left(test, values):
    """How far a test (no remainder) is from failing; it holds if this is 0 or more."""
    value = values[test[1]]
    if test[0] == AT_MOST:
        return test[2] - value
    if test[0] == AT_LEAST:
        return value - test[2]
    return values[test[2]] + test[3] - value


def holds(test, values):
    """Whether a test holds at the values."""
    if test[0] == REMAINDER:
        return values[test[1]] % test[2] == test[3]
    return room_left(test, values) >= 0


def chosen_branch(loop, values):
    """The number of the branch that is chosen at the values, or None."""
    for number, branch in enumerate(loop):
        if all([holds(test, values) for test in branch[0]]):
            return number
    return None


def moved(move, values):
    """The values behind a move, each worked out by the values ahead of it."""
    return [part[1] if part[0] == GIVEN_NUMBER else values[part[1]] + part[2] for part in move]


def is_beyond(values):
    """Whether some value is beyond."""
    return any([abs(value) > FARTHEST for value in values])


def rounds_run(loop, values, most):
    """What the loop done round by round comes to, so many rounds at most; how many; the values then."""
    done = 0
    number = chosen_branch(loop, values)
    while number is not None and done < most:
        values = moved(loop[number][1], values)
        done += 1
        # Looked at ahead of the loop's end: a value that is beyond counts for more.
        if is_beyond(values):
            return (BEYOND, done, values)
        number = chosen_branch(loop, values)
    return (ENDED if number is None else GOES_ON, done, values)
