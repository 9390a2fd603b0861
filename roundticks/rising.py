"""What floors force, the earliest and the latest timetable, and rings that gain."""

from roundticks.errors import Gain
from roundticks.networks import Network
from roundticks.numbers import up


class Rising:
    """The numbers of a network as they rise from floors.

    A raise is a tuple (point, number, rule, cause, depth): the rule that raised the
    point, the number of the raise of that rule's start, and how many rules lead here
    from a floor. All raises are kept, since a circle of the last ones need not gain.
    """

    def __init__(self, network, floors):
        self._names = network.names()
        self._period = network.period()
        self._clocks = [network.clock(name) for name in self._names]
        self._rules = [(network.index(start), network.index(end), least)
                       for start, end, least in network.rules()]
        self._raises = []
        self._last = [None] * len(self._names)
        for point, floor in enumerate(floors):
            if floor is not None:
                self._last[point] = len(self._raises)
                self._raises.append((point, up(self._clocks[point], floor), None, None, 0))

    def _number(self, point):
        """The number that a point has now, or None."""
        last = self._last[point]
        return None if last is None else self._raises[last][1]

    def numbers(self):
        """The tuple of the numbers that the points have now."""
        return tuple([self._number(point) for point in range(len(self._names))])

    def _follow(self, rule):
        """Raises the end of the rule with a number as far as its start asks; returns whether it did."""
        start, end, least = self._rules[rule]
        cause = self._last[start]
        if cause is None:
            return False
        number = up(self._clocks[end], self._raises[cause][1] + least)
        had = self._number(end)
        if had is not None and had >= number:
            return False
        self._last[end] = len(self._raises)
        self._raises.append((end, number, rule, cause, self._raises[cause][4] + 1))
        return True

    def finish(self):
        """Rises until no rule asks for more; returns a ring that gains if there is no end, else None."""
        # So many rules in a row come past some point twice with the same rest by the period,
        # the second time with more; and each round of all rules makes the longest row longer.
        rests = sum([self._period // clock[1] for clock in self._clocks])
        going = True
        while going:
            going = False
            for rule in range(len(self._rules)):
                if self._follow(rule):
                    going = True
                    if self._raises[-1][4] >= rests:
                        return self._last_ring()
        return None

    def walk_to(self, point):
        """The pair of the point with a floor and the walk from there that gave a point its number, or None."""
        at = self._last[point]
        if at is None:
            return None
        rules = []
        while self._raises[at][2] is not None:
            rules.append(self._raises[at][2])
            at = self._raises[at][3]
        return (self._names[self._raises[at][0]], tuple(rules[::-1]))

    def _last_ring(self):
        """The ring between the two last raises, back from the last one, with one point and one rest."""
        rules = []
        met = {}
        at = len(self._raises) - 1
        while True:
            point, number, rule, cause, _ = self._raises[at]
            rest = (point, number % self._period)
            if rest in met:
                return (self._names[point], number, tuple(rules[met[rest]:][::-1]))
            met[rest] = len(rules)
            rules.append(rule)
            at = cause


def forced(network, floors):
    """The tuple of the numbers that floors force, None where there is none."""
    rising = Rising(network, floors)
    ring = rising.finish()
    if ring is not None:
        raise Gain(ring)
    return rising.numbers()


def earliest(network, floors):
    """The earliest timetable above floors."""
    return forced(network, floors)


def latest(network, ceilings):
    """The latest timetable below ceilings."""
    ring = find_ring(network)
    if ring is not None:
        raise Gain(ring)
    # Going down is rising in the network seen from the other end of time.
    numbers = forced(mirrored(network), [-ceiling for ceiling in ceilings])
    return tuple([-number for number in numbers])


def mirrored(network):
    """The network whose timetables are those of a network with all signs changed."""
    points = [(name, -first, step) for name, first, step in network.points()]
    rules = [(end, start, least) for start, end, least in network.rules()]
    return Network(points, rules)


def find_ring(network):
    """A ring that gains, or None if the network has a timetable."""
    return Rising(network, [0] * len(network.names())).finish()


def has_timetable(network):
    """Whether a network has a timetable."""
    return find_ring(network) is None
