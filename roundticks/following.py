"""Rules that follow from others, and networks without needless rules."""

from roundticks.elimination import table_between
from roundticks.errors import NoWay
from roundticks.networks import without_rule


def greatest_in(table, p, q):
    """The greatest least distance with which a rule from p to q follows by a table, or None if none does."""
    lead = table.lead(p, q)
    if lead is None:
        return None
    # What p forces at itself are the possible numbers of p, and no others.
    return min([lead.at(v) - v for v in table.lead(p, p).row()])


def follows(network, rule):
    """Whether a rule follows from a network."""
    p, q, least = rule
    table = table_between(network, p, q)
    if table is None:
        return True
    greatest = greatest_in(table, p, q)
    return greatest is not None and least <= greatest


def greatest_least(network, p, q):
    """The greatest least distance with which a rule from p to q follows, or None if none does."""
    table = table_between(network, p, q)
    if table is None:
        raise NoWay()
    return greatest_in(table, p, q)


def is_needless(network, number):
    """Whether the rule with a number follows from the network without it."""
    return follows(without_rule(network, number), network.rules()[number])


def needless(network):
    """The ascending list of the numbers of all rules that are needless."""
    return [number for number in range(len(network.rules())) if is_needless(network, number)]


def kernel(network):
    """A kernel of a network."""
    # What is not needless beside more rules is not needless beside fewer.
    number = 0
    while number < len(network.rules()):
        if is_needless(network, number):
            network = without_rule(network, number)
        else:
            number += 1
    return network
