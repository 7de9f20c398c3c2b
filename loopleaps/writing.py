"""Loops and phases as numbers, the way they are answered."""


def loop_numbers(loop):
    """How many branches a loop has, they; tests and moves are kept as they are told."""
    told = [len(loop)]
    for tests, move in loop:
        told.append(len(tests))
        for part in tests + move:
            told.extend(part)
    return told


def phase_numbers(pattern, often):
    """How many branches a phase's pattern has, they, how often it is done."""
    return [len(pattern)] + pattern + [often]
