"""Builds calls, splits answers, and does loops round by round, apart from the program."""

from loopleaps.leaps import answers

CHOSEN = [2]
PATTERN = [3]
TIMES = [4]
LEAP = [5]
PHASES = [6]
DONE = [7]
GO = [8]
GIVEN = [10]


def run(most):
    return [9, most]


def at_most(counter, number):
    return [0, counter, number]


def at_least(counter, number):
    return [1, counter, number]


def below(counter, other, number):
    return [2, counter, other, number]


def remainder(counter, divisor, rest):
    return [3, counter, divisor, rest]


def put(number):
    return [0, number]


def old(counter, number=0):
    return [1, counter, number]


def branch(tests, *move):
    return (tests, list(move))


def loop_numbers(branches):
    numbers = [len(branches)]
    for tests, move in branches:
        numbers.append(len(tests))
        for part in tests + move:
            numbers.extend(part)
    return numbers


def raw_loop(counters, numbers):
    return [0, counters, len(numbers)] + list(numbers)


def loop(*branches):
    return raw_loop(len(branches[0][1]), loop_numbers(branches))


def values(*amounts):
    return [1, len(amounts)] + list(amounts)


def split(told):
    found = []
    place = 0
    while place < len(told):
        length = told[place]
        found.append(told[place + 1:place + 1 + length])
        place += 1 + length
    return found


def ask(*calls):
    return split(answers([number for call in calls for number in call]))


def last(*calls):
    return ask(*calls)[-1]


UP_THEN_UP = loop(branch([at_most(0, 9)], old(0, 1), old(1)), branch([at_most(1, 4)], old(0), old(1, 1)))

# At -999999 the counters change places; then counter 0 goes down by ones, and counter 1 grows 99 times as fast.
SWAP = branch([at_most(0, -999999)], old(1), old(0, 2))
DOWN = branch([], old(0, -1), old(1, 99))


def ending_behind(rounds):
    """One more in each of so many rounds, each of which is a phase of its own (up to eight)."""
    ahead = [at_most(0, rounds - 1)]
    return loop(branch(ahead + [remainder(0, 4, 0)], old(0, 1)), branch(ahead + [remainder(0, 4, 2)], old(0, 1)),
                branch(ahead, old(0, 1)))


# The same for 8 rounds from 0 on, but from 8 on it's one more for ever.
FOR_EVER_BEHIND_EIGHT = loop(branch([at_most(0, 7), remainder(0, 4, 0)], old(0, 1)),
                             branch([at_most(0, 7), remainder(0, 4, 2)], old(0, 1)), branch([], old(0, 1)))


def three_leaps(sign, more):
    """Three leaps, behind the third of which the last value is sign * (10 ** 12 + more), and no branch is chosen."""
    tests = [at_least(0, -29999), at_least(1, 1), at_least(2, 1)]
    three = loop(branch(tests[:1], old(0, -1), old(1, 99), old(2), old(3)),
                 branch(tests[1:2], old(0), old(1, -1), old(2, 99), old(3)),
                 branch(tests[2:], old(0), old(1), old(2, -1), old(3, 99 * sign)))
    return [three, values(1000000, 60000, 40101, sign * (1 + more))]


def beyond_within_a_pattern():
    """Eight phases, and values that are beyond within the last one's pattern alone, then over."""
    grows = loop(branch([at_least(1, 1), at_most(2, 3)], old(0, 99), old(1, -1), old(2)),
                 branch([at_most(1, 0), at_most(2, 12)], old(0), old(0, 99), old(2, 1)),
                 branch([at_least(1, 1)], old(0, 1), put(0), old(2)))
    return [grows, values(9901, 10000, 0)]


def naive_holds(test, amounts):
    kind, counter = test[0], test[1]
    if kind == 0:
        return amounts[counter] <= test[2]
    if kind == 1:
        return amounts[counter] >= test[2]
    if kind == 2:
        return amounts[counter] - amounts[test[2]] <= test[3]
    value = amounts[counter]
    while value < 0:
        value += 12 * 10 ** 6
    return value % test[2] == test[3]


def naive_chosen(branches, amounts):
    for number, (tests, move) in enumerate(branches):
        if all(naive_holds(test, amounts) for test in tests):
            return number
    return None


def naive_round(branches, number, amounts):
    return [part[1] if part[0] == 0 else amounts[part[1]] + part[2] for part in branches[number][1]]


def naive_pattern(branches, amounts):
    row = []
    while len(row) < 6:
        number = naive_chosen(branches, amounts)
        if number is None:
            break
        row.append(number)
        amounts = naive_round(branches, number, amounts)
    for length in (1, 2, 3):
        if len(row) >= 2 * length and row[:length] == row[length:2 * length]:
            return row[:length]
    return row[:1]


def naive_times(branches, pattern, amounts, most):
    """How often the pattern is done, so often at most, and the values behind that."""
    for often in range(most):
        ahead = amounts
        for number in pattern:
            if naive_chosen(branches, ahead) != number:
                return often, amounts
            ahead = naive_round(branches, number, ahead)
        amounts = ahead
    return most, amounts


def naive_run(branches, amounts, most):
    """What the loop comes to round by round, so many rounds at most, how many, and the values then."""
    for done in range(most):
        number = naive_chosen(branches, amounts)
        if number is None:
            return [0, done] + amounts
        amounts = naive_round(branches, number, amounts)
        if max(amounts) > 10 ** 12 or min(amounts) < -10 ** 12:
            return [1, done + 1] + amounts
    return [0 if naive_chosen(branches, amounts) is None else 2, most] + amounts


def naive_leaps(branches, amounts, most):
    """What ends the leaps, the phases, the values behind them; a pattern done so often is taken as done for ever."""
    phases = []
    while True:
        if phases and (max(amounts) > 10 ** 12 or min(amounts) < -10 ** 12):
            return 2, phases, amounts
        pattern = naive_pattern(branches, amounts)
        if not pattern:
            return 0, phases, amounts
        if len(phases) == 8:
            return 3, phases, amounts
        often, behind = naive_times(branches, pattern, amounts, most)
        if often == most:
            return 1, phases, amounts
        phases.append((pattern, often))
        amounts = behind


def split_phases(told):
    """What a call phases answered: what ends the leaps, how many rounds, the phases, the values then."""
    end, rounds, length = told[:3]
    phases = []
    told = told[3:]
    for place in range(length):
        size = told[0]
        phases.append((told[1:1 + size], told[1 + size]))
        told = told[2 + size:]
    return end, rounds, phases, told


def random_test(chance, counters, far):
    counter = chance.randrange(counters)
    kind = chance.choice([0, 1, 2, 2, 3])
    if kind == 3:
        divisor = chance.choice([2, 3, 4, 6])
        return remainder(counter, divisor, chance.randrange(divisor))
    number = chance.randint(-far, far)
    if kind == 2:
        return below(counter, chance.randrange(counters), number)
    return [kind, counter, number]


def random_branch(chance, counters, far, lengths):
    """A branch with as many tests as one of the lengths."""
    tests = [random_test(chance, counters, far) for place in range(chance.choice(lengths))]
    order = list(range(counters))
    if chance.random() < 0.5:
        chance.shuffle(order)
    move = [old(counter, chance.choice([0, 0, 1, -1, 2, -3, chance.randint(-99, 99)])) for counter in order]
    if chance.random() < 0.2:
        move[0] = chance.choice([put(chance.randint(-99, 99)), old(chance.randrange(counters), 1)])
    return branch(tests, *move)
