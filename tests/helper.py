"""Builds calls, splits answers, and does loops round by round, apart from the program."""

from loopleaps.leaps import answers

CHOSEN = [2]
PATTERN = [3]
TIMES = [4]
LEAP = [5]


def at_most(counter, number):
    return [0, counter, number]


def at_least(counter, number):
    return [1, counter, number]


def below(counter, other, number):
    return [2, counter, other, number]


def remainder(counter, divisor, rest):
    return [3, counter, divisor, rest]


def put(number):
    return [0, number]


def old(counter, number=0):
    return [1, counter, number]


def branch(tests, *move):
    return (tests, list(move))


def loop_numbers(branches):
    numbers = [len(branches)]
    for tests, move in branches:
        numbers.append(len(tests))
        for part in tests + move:
            numbers.extend(part)
    return numbers


def raw_loop(counters, numbers):
    return [0, counters, len(numbers)] + list(numbers)


def loop(*branches):
    return raw_loop(len(branches[0][1]), loop_numbers(branches))


def values(*amounts):
    return [1, len(amounts)] + list(amounts)


def split(told):
    found = []
    place = 0
    while place < len(told):
        length = told[place]
        found.append(told[place + 1:place + 1 + length])
        place += 1 + length
    return found


def ask(*calls):
    return split(answers([number for call in calls for number in call]))


def last(*calls):
    return ask(*calls)[-1]


def naive_holds(test, amounts):
    kind, counter = test[0], test[1]
    if kind == 0:
        return amounts[counter] <= test[2]
    if kind == 1:
        return amounts[counter] >= test[2]
    if kind == 2:
        return amounts[counter] - amounts[test[2]] <= test[3]
    value = amounts[counter]
    while value < 0:
        value += 12 * 10 ** 6
    return value % test[2] == test[3]


def naive_chosen(branches, amounts):
    for number, (tests, move) in enumerate(branches):
        if all(naive_holds(test, amounts) for test in tests):
            return number
    return None


def naive_round(branches, number, amounts):
    return [part[1] if part[0] == 0 else amounts[part[1]] + part[2] for part in branches[number][1]]


def naive_pattern(branches, amounts):
    row = []
    while len(row) < 6:
        number = naive_chosen(branches, amounts)
        if number is None:
            break
        row.append(number)
        amounts = naive_round(branches, number, amounts)
    for length in (1, 2, 3):
        if len(row) >= 2 * length and row[:length] == row[length:2 * length]:
            return row[:length]
    return row[:1]


def naive_times(branches, pattern, amounts, most):
    """How often the pattern is done, so often at most, and the values behind that."""
    for often in range(most):
        ahead = amounts
        for number in pattern:
            if naive_chosen(branches, ahead) != number:
                return often, amounts
            ahead = naive_round(branches, number, ahead)
        amounts = ahead
    return most, amounts
