"""Networks of points with clocks of their own, and of rules between them."""

from math import lcm

from roundticks.errors import BadNetwork, UnknownName
from roundticks.numbers import are_alike_clocks
from roundticks.words import is_integer, is_word

GREATEST_STEP = 60


def is_name_of(value, names):
    """Whether a value is one of the names that are the keys of a dict."""
    # A list or a dict cannot be looked up, not even to find that it is no key.
    return isinstance(value, str) and value in names


def wrong_in_point(point, earlier):
    """The place of the first wrong part within a point, as the end of its path, or None."""
    if not isinstance(point, tuple) or len(point) != 3:
        return ()
    name, first, step = point
    if not is_word(name) or name in earlier:
        return (0,)
    if not is_integer(first):
        return (1,)
    if not is_integer(step) or not 1 <= step <= GREATEST_STEP:
        return (2,)
    return None


def wrong_in_points(points):
    """The path of the first wrong part of what should be the points of a network, or None."""
    if not isinstance(points, (list, tuple)):
        return (0,)
    earlier = {}
    for k, point in enumerate(points):
        wrong = wrong_in_point(point, earlier)
        if wrong is not None:
            return (0, k) + wrong
        earlier[point[0]] = True
    return None


def wrong_in_rule(rule, names):
    """The place of the first wrong part within a rule, as the end of its path, or None."""
    if not isinstance(rule, tuple) or len(rule) != 3:
        return ()
    start, end, least = rule
    if not is_name_of(start, names):
        return (0,)
    if not is_name_of(end, names):
        return (1,)
    if not is_integer(least):
        return (2,)
    return None


def wrong_in_rules(rules, names):
    """The path of the first wrong part of what should be the rules of a network, or None."""
    if not isinstance(rules, (list, tuple)):
        return (1,)
    for k, rule in enumerate(rules):
        wrong = wrong_in_rule(rule, names)
        if wrong is not None:
            return (1, k) + wrong
    return None


class Network:
    """A list of points with different names, and a list of rules; it never changes."""

    def __init__(self, points, rules):
        wrong = wrong_in_points(points)
        if wrong is not None:
            raise BadNetwork(wrong)
        places = {point[0]: k for k, point in enumerate(points)}
        wrong = wrong_in_rules(rules, places)
        if wrong is not None:
            raise BadNetwork(wrong)
        self._points = tuple([tuple(point) for point in points])
        self._rules = tuple([tuple(rule) for rule in rules])
        self._places = places

    def points(self):
        """The list of the points."""
        return list(self._points)

    def rules(self):
        """The list of the rules."""
        return list(self._rules)

    def names(self):
        """The list of the names of the points."""
        return [point[0] for point in self._points]

    def has_name(self, value):
        """Whether a value is a name of a point."""
        return is_name_of(value, self._places)

    def clock(self, name):
        """The clock of a point."""
        return self._points[self.index(name)][1:]

    def index(self, name):
        """The number of a point among the points."""
        if not self.has_name(name):
            raise UnknownName(name)
        return self._places[name]

    def period(self):
        """The least common multiple of all steps."""
        period = 1
        for point in self._points:
            period = lcm(period, point[2])
        return period

    def __eq__(self, other):
        return isinstance(other, Network) and self._points == other._points and self._rules == other._rules

    def __ne__(self, other):
        return not self == other


def have_like_points(one, other):
    """Whether two networks have the same names in the same order, each with alike clocks."""
    if one.names() != other.names():
        return False
    return all([are_alike_clocks(one.clock(name), other.clock(name)) for name in one.names()])


def with_points(network, points):
    """The network with more points behind its own."""
    if not isinstance(points, (list, tuple)):
        raise BadNetwork((0,))
    return Network(network.points() + list(points), network.rules())


def with_rules(network, rules):
    """The network with more rules behind its own."""
    if not isinstance(rules, (list, tuple)):
        raise BadNetwork((1,))
    return Network(network.points(), network.rules() + list(rules))


def without_point(network, name):
    """The network without a point and without all rules that start or end there."""
    if not network.has_name(name):
        raise UnknownName(name)
    return part_of(network, [own for own in network.names() if own != name])


def without_rule(network, number):
    """The network without the rule with a number."""
    rules = network.rules()
    del rules[number]
    return Network(network.points(), rules)


def with_least(network, number, least):
    """The network with another least distance of the rule with a number."""
    rules = network.rules()
    start, end, _ = rules[number]
    rules[number] = (start, end, least)
    return Network(network.points(), rules)


def part_of(network, names):
    """The network of the points with these names and of all rules between them."""
    kept = {}
    for name in names:
        if not network.has_name(name):
            raise UnknownName(name)
        kept[name] = True
    points = [point for point in network.points() if point[0] in kept]
    rules = [rule for rule in network.rules() if rule[0] in kept and rule[1] in kept]
    return Network(points, rules)
