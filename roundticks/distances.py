"""How far points can be apart, and how far rules may be tightened."""

from roundticks.elimination import table_between
from roundticks.errors import Gain, NoWay
from roundticks.following import greatest_in
from roundticks.leading import back_of
from roundticks.networks import without_rule
from roundticks.rising import find_ring


def table_for(network, p, q):
    """The table of a network between p and q."""
    table = table_between(network, p, q)
    if table is None:
        raise Gain(find_ring(network))
    return table


def distances(network, p, q):
    """The pair of the least and the greatest distance from p to q, None for no bound."""
    table = table_for(network, p, q)
    back = greatest_in(table, q, p)
    return (greatest_in(table, p, q), None if back is None else -back)


def distances_from(network, p, v, q):
    """The pair of the least and the greatest distance from the number v of p to q, None for no bound."""
    table = table_for(network, p, q)
    # For a number off the clock the lead refuses to tell a value, with the same error.
    if table.lead(p, p).at(v) != v:
        raise NoWay()
    forward = table.lead(p, q)
    backward = table.lead(q, p)
    return (None if forward is None else forward.at(v) - v,
            None if backward is None else back_of(backward).at(v) - v)


def slack(network, number):
    """The slack of the rule with a number, or None for no bound."""
    ring = find_ring(network)
    if ring is not None:
        raise Gain(ring)
    start, end, least = network.rules()[number]
    _, greatest = distances(without_rule(network, number), start, end)
    return None if greatest is None else greatest - least
