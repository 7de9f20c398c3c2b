"""The calls on one object, and their answers as numbers."""

from loopleaps.patterns import pattern_at, times_done, values_behind
from loopleaps.phases import OVER, branch_done, leaps_from, rounds_of
from loopleaps.reading import NotWhole, Reader, read_loop, read_values
from loopleaps.rounds import chosen_branch, is_beyond, rounds_run
from loopleaps.writing import loop_numbers, phase_numbers

LOOP = 0
VALUES = 1
CHOSEN = 2
PATTERN = 3
TIMES = 4
LEAP = 5
PHASES = 6
DONE = 7
GO = 8
RUN = 9

MOST_COUNTERS = 4
MOST_ROUNDS = 2000
# One branch that is never chosen: at most -1 and at least 0; it would keep its counter.
FIRST_LOOP = (1, 2, 0, 0, -1, 1, 0, 0, 1, 0, 0)

NOT_AS_TOLD = -1
WRONG_COUNTERS = -2
WRONG_ROUNDS = -3
NONE_CHOSEN = -4
NOT_OVER = -5
WOULD_BE_BEYOND = -7


class Session:
    """A loop and the values of its counters. Each method answers one call, in numbers."""

    def __init__(self):
        self.loop = read_loop(list(FIRST_LOOP), 1)
        self.amounts = [0]

    def take_loop(self, counters, numbers):
        """Another loop, with so many counters."""
        if counters < 1 or counters > MOST_COUNTERS:
            return [WRONG_COUNTERS]
        try:
            loop = read_loop(numbers, counters)
        except NotWhole:
            return [NOT_AS_TOLD]
        self.loop = loop
        self.amounts = [0] * counters
        return [len(loop)]

    def take_values(self, numbers):
        """Other values."""
        try:
            self.amounts = read_values(numbers, len(self.amounts))
        except NotWhole:
            return [NOT_AS_TOLD]
        return [0]

    def tell_chosen(self):
        """The branch that is chosen."""
        number = chosen_branch(self.loop, self.amounts)
        return [0] if number is None else [1, number]

    def tell_pattern(self):
        """The pattern at the values."""
        pattern = pattern_at(self.loop, self.amounts)
        return [len(pattern)] + pattern

    def tell_times(self):
        """How often that pattern is done."""
        pattern = pattern_at(self.loop, self.amounts)
        if not pattern:
            return [NONE_CHOSEN]
        often = times_done(self.loop, pattern, self.amounts)
        return [0] if often is None else [1, often]

    def leap(self):
        """One leap; the values are then those behind it."""
        pattern = pattern_at(self.loop, self.amounts)
        if not pattern:
            return [0]
        often = times_done(self.loop, pattern, self.amounts)
        if often is None:
            return [2, len(pattern)] + pattern
        behind = values_behind(self.loop, pattern, self.amounts, often)
        if is_beyond(behind):
            return [WOULD_BE_BEYOND]
        self.amounts = behind
        return [1] + phase_numbers(pattern, often) + behind

    def tell_phases(self):
        """The phases from here on, and what ends them."""
        end, phases, behind = leaps_from(self.loop, self.amounts)
        told = [end, rounds_of(phases), len(phases)]
        for pattern, often in phases:
            told.extend(phase_numbers(pattern, often))
        return told + behind

    def tell_done(self):
        """How often each branch is done in these phases."""
        end, phases, behind = leaps_from(self.loop, self.amounts)
        return [end] + [branch_done(number, phases) for number in range(len(self.loop))]

    def go(self):
        """All leaps up to the loop's end; the values are then those there."""
        end, phases, behind = leaps_from(self.loop, self.amounts)
        if end != OVER:
            return [NOT_OVER]
        self.amounts = behind
        return [rounds_of(phases)] + behind

    def tell_run(self, most):
        """The loop done round by round, so many rounds at most."""
        if most < 0 or most > MOST_ROUNDS:
            return [WRONG_ROUNDS]
        end, done, behind = rounds_run(self.loop, self.amounts, most)
        return [end, done] + behind

    def tell_given(self):
        """The loop and the values."""
        return loop_numbers(self.loop) + self.amounts


def answer_next(session, reader):
    """Reads the next call and answers it."""
    call = reader.number()
    if call == LOOP:
        counters = reader.number()
        return session.take_loop(counters, reader.row())
    if call == VALUES:
        return session.take_values(reader.row())
    if call == CHOSEN:
        return session.tell_chosen()
    if call == PATTERN:
        return session.tell_pattern()
    if call == TIMES:
        return session.tell_times()
    if call == LEAP:
        return session.leap()
    if call == PHASES:
        return session.tell_phases()
    if call == DONE:
        return session.tell_done()
    if call == GO:
        return session.go()
    if call == RUN:
        return session.tell_run(reader.number())
    # What is left is given: no other call is handed in.
    return session.tell_given()


def answers(calls):
    """The answers to the calls on one new object, each with how many numbers it has."""
    session = Session()
    reader = Reader(calls)
    told = []
    while not reader.at_end():
        answer = answer_next(session, reader)
        told.append(len(answer))
        told.extend(answer)
    return told
