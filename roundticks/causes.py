"""Papers that tell for each forced number by which walk it is forced."""

from roundticks.errors import Gain
from roundticks.numbers import is_on, up
from roundticks.rising import Rising
from roundticks.walks import end_of_walk, led


def cause_paper(network, floors):
    """A right cause paper for floors."""
    rising = Rising(network, floors)
    ring = rising.finish()
    if ring is not None:
        raise Gain(ring)
    numbers = rising.numbers()
    return (numbers, tuple([rising.walk_to(point) for point in range(len(numbers))]))


def is_paper(network, value):
    """Whether a value is a pair of two tuples with a member for each point."""
    if not isinstance(value, tuple) or len(value) != 2:
        return False
    many = len(network.points())
    return all([isinstance(part, tuple) and len(part) == many for part in value])


def are_on_clocks(network, numbers):
    """Whether each number, unless it is None, is one of its point's clock."""
    clocks = [network.clock(name) for name in network.names()]
    return all([number is None or is_on(clock, number) for clock, number in zip(clocks, numbers)])


def are_above(floors, numbers):
    """Whether each point with a floor has a number of at least this."""
    for floor, number in zip(floors, numbers):
        if floor is not None and (number is None or number < floor):
            return False
    return True


def are_kept(network, numbers):
    """Whether each rule is kept whose start has a number."""
    for start, end, least in network.rules():
        before = numbers[network.index(start)]
        after = numbers[network.index(end)]
        if before is not None and (after is None or after < before + least):
            return False
    return True


def is_cause(network, floors, name, number, value):
    """Whether a value is a pair that tells by which walk a floor forces the number of the point with a name."""
    if not isinstance(value, tuple) or len(value) != 2:
        return False
    origin, rules = value
    if not network.has_name(origin) or not isinstance(rules, tuple):
        return False
    floor = floors[network.index(origin)]
    if floor is None or end_of_walk(network, origin, rules) != name:
        return False
    return led(network, origin, up(network.clock(origin), floor), rules) == number


def judge_causes(network, floors, value):
    """Whether a value is a right cause paper for floors."""
    if not is_paper(network, value):
        return False
    numbers, walks = value
    if not are_on_clocks(network, numbers) or not are_above(floors, numbers) or not are_kept(network, numbers):
        return False
    for name, number, walk in zip(network.names(), numbers, walks):
        if number is None and walk is not None:
            return False
        if number is not None and not is_cause(network, floors, name, number, walk):
            return False
    return True
