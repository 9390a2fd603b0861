"""Walks along rules, and rings that gain."""

from roundticks.errors import NoWay
from roundticks.numbers import is_on, up
from roundticks.words import is_number


def end_of_walk(network, name, rules):
    """The name of the point where a walk from a point ends, or None if rules is no such walk."""
    if not isinstance(rules, (list, tuple)):
        return None
    known = network.rules()
    at = name
    for number in rules:
        if not is_number(number) or number >= len(known) or known[number][0] != at:
            return None
        at = known[number][1]
    return at


def led(network, name, number, rules):
    """The number to which a walk leads a number of the point with a name."""
    if end_of_walk(network, name, rules) is None:
        raise NoWay()
    known = network.rules()
    for k in rules:
        end = known[k][1]
        number = up(network.clock(end), number + known[k][2])
    return number


def is_ring(network, value):
    """Whether a value is a ring of a network."""
    if not isinstance(value, tuple) or len(value) != 3:
        return False
    name, number, rules = value
    if not network.has_name(name) or not is_on(network.clock(name), number):
        return False
    if not isinstance(rules, tuple) or len(rules) == 0:
        return False
    return end_of_walk(network, name, rules) == name


def judge_ring(network, value):
    """Whether a value is a ring that gains."""
    if not is_ring(network, value):
        return False
    name, number, rules = value
    return led(network, name, number, rules) >= number + network.period()
