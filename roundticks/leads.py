"""Leads from one clock to another one, told by their rows."""

from roundticks.errors import BadLead, NoWay
from roundticks.networks import GREATEST_STEP
from roundticks.numbers import are_alike_clocks, is_on, is_period
from roundticks.words import is_integer


def is_clock(value):
    """Whether a value is a clock with a step that is not too great."""
    if not isinstance(value, tuple) or len(value) != 2:
        return False
    first, step = value
    return is_integer(first) and is_integer(step) and 1 <= step <= GREATEST_STEP


def wrong_in_row(row, end, period):
    """The path of the first wrong member of a row that has the right length, or None."""
    for k, value in enumerate(row):
        if not is_on(end, value):
            return (3, k)
    for k in range(1, len(row)):
        if row[k] < row[k - 1]:
            return (4, k)
    if row[-1] > row[0] + period:
        return (4, 0)
    return None


def wrong_in_lead(start, end, period, row):
    """The path of the first wrong part of what should be a lead, or None."""
    if not is_clock(start):
        return (0,)
    if not is_clock(end):
        return (1,)
    if not is_period(period, [start[1], end[1]]):
        return (2,)
    if not isinstance(row, (list, tuple)) or len(row) != period // start[1]:
        return (3,)
    return wrong_in_row(row, end, period)


class Lead:
    """A value for each number of the start, that never goes down; it never changes."""

    def __init__(self, start, end, period, row):
        wrong = wrong_in_lead(start, end, period, row)
        if wrong is not None:
            raise BadLead(wrong)
        self._start = start
        self._end = end
        self._period = period
        self._row = tuple(row)

    def start(self):
        """The clock of the start."""
        return self._start

    def end(self):
        """The clock of the end."""
        return self._end

    def period(self):
        """The period."""
        return self._period

    def row(self):
        """The list of the values of the numbers of the start from 0 to period - 1."""
        return list(self._row)

    def at(self, v):
        """The value of a number of the start."""
        if not is_on(self._start, v):
            raise NoWay()
        rest = v % self._period
        return self._row[rest // self._start[1]] + v - rest

    def __eq__(self, other):
        if not isinstance(other, Lead):
            return False
        if not are_alike_clocks(self._start, other._start) or not are_alike_clocks(self._end, other._end):
            return False
        return self._period == other._period and self._row == other._row

    def __ne__(self, other):
        return not self == other
