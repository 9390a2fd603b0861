"""The numbers of clocks."""

from roundticks.words import is_integer


def up(clock, x):
    """The least number of a clock that is at least x."""
    first, step = clock
    return x + (first - x) % step


def down(clock, x):
    """The greatest number of a clock that is at most x."""
    first, step = clock
    return x - (x - first) % step


def is_on(clock, value):
    """Whether a value is a number of a clock."""
    first, step = clock
    return is_integer(value) and (value - first) % step == 0


def are_alike_clocks(one, other):
    """Whether two clocks have the same numbers."""
    return one[1] == other[1] and is_on(one, other[0])


def rests(clock, period):
    """The numbers of a clock from 0 to period - 1, ascending; the period is a multiple of its step."""
    first, step = clock
    return list(range(first % step, period, step))


def is_period(value, steps):
    """Whether a value is an integer of at least 1 that is a multiple of all steps."""
    return is_integer(value) and value >= 1 and all([value % step == 0 for step in steps])
