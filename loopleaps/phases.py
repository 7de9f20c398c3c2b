"""Leaps done one behind the other: their phases, and what ends them.

A phase is a tuple of its pattern and how often that is done.
"""

from loopleaps.patterns import pattern_at, times_done, values_behind
from loopleaps.rounds import is_beyond

OVER = 0
NEVER = 1
FAR = 2
MANY = 3

MOST_PHASES = 8


def leaps_from(loop, values):
    """What ends the leaps from the values on, their phases, and the values behind them."""
    phases = []
    while not is_beyond(values):
        pattern = pattern_at(loop, values)
        if not pattern:
            return (OVER, phases, values)
        if len(phases) == MOST_PHASES:
            return (MANY, phases, values)
        often = times_done(loop, pattern, values)
        if often is None:
            return (NEVER, phases, values)
        values = values_behind(loop, pattern, values, often)
        phases.append((pattern, often))
    return (FAR, phases, values)


def rounds_of(phases):
    """How many rounds all phases have together."""
    return sum([len(pattern) * often for pattern, often in phases])


def branch_done(number, phases):
    """How often a branch is done in all phases."""
    return sum([pattern.count(number) * often for pattern, often in phases])
