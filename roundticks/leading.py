"""Leads made of rules and of other leads."""

from roundticks.counts import counts_of, number_of, star_row
from roundticks.errors import Gain, Unlike
from roundticks.leads import Lead
from roundticks.numbers import are_alike_clocks, rests, up


def rule_lead(start, end, period, least):
    """The lead of a rule."""
    return Lead(start, end, period, [up(end, v + least) for v in rests(start, period)])


def staying_lead(clock, period):
    """The lead that stays."""
    return Lead(clock, clock, period, rests(clock, period))


def later_lead(one, other):
    """The later one of two leads."""
    if one.period() != other.period():
        raise Unlike()
    if not are_alike_clocks(one.start(), other.start()) or not are_alike_clocks(one.end(), other.end()):
        raise Unlike()
    row = [max(pair) for pair in zip(one.row(), other.row())]
    return Lead(one.start(), one.end(), one.period(), row)


def and_then(one, other):
    """The lead of one and then other."""
    if one.period() != other.period() or not are_alike_clocks(one.end(), other.start()):
        raise Unlike()
    return Lead(one.start(), other.end(), one.period(), [other.at(x) for x in one.row()])


def star_of(lead):
    """The star of a lead."""
    clock = lead.start()
    if not are_alike_clocks(clock, lead.end()):
        raise Unlike()
    row, gain = star_row(counts_of(lead))
    if gain is not None:
        count, steps = gain
        raise Gain((number_of(clock, count), steps))
    return Lead(clock, clock, lead.period(), [number_of(clock, count) for count in row])


def back_of(lead):
    """The back of a lead."""
    start, end, period = lead.start(), lead.end(), lead.period()
    numbers = rests(end, period)
    # A number whose value is at most the first one of these; from there it goes up with them.
    v = rests(start, period)[0]
    v = v + (numbers[0] - lead.at(v)) // period * period
    row = []
    for u in numbers:
        while lead.at(v + start[1]) <= u:
            v = v + start[1]
        row.append(v)
    return Lead(end, start, period, row)


def jumps(lead):
    """The ascending list of the jumps of a lead."""
    start = lead.start()
    return [v for v in rests(start, lead.period()) if lead.at(v) > lead.at(v - start[1])]


def with_period(lead, times):
    """The lead with so many times the period."""
    period = lead.period()
    row = [value + k * period for k in range(times) for value in lead.row()]
    return Lead(lead.start(), lead.end(), times * period, row)
