"""What the tests share: calls that are checked for [0.2] and [0.3], and values of all kinds."""

import copy
import unittest

from roundticks.leads import Lead
from roundticks.networks import Network
from roundticks.programs import Program
from roundticks.tables import Table
from tests.oracle import clocks_of, period_of, rests_of, risen

POINTS = [("a", 0, 1), ("b", 1, 2), ("c", 0, 3)]
RULES = [("a", "b", 2), ("b", "c", 1), ("c", "a", -6)]
# The modules of the example of S6.5.
LEG = ("leg", (("door", "p", 0, 2), ("door", "q", 0, 2), ("point", "h", 1, 3),
               ("rule", "p", "h", 1), ("rule", "h", "q", 1), ("rule", "q", "p", -7)))
TRIP = ("trip", (("door", "a", 0, 2), ("point", "b", 4, 2), ("chain", 2, "leg", "p", "q", "a", "b"), ("rule", "b", "a", -12)))


def sample():
    """The network N of the examples."""
    return Network(list(POINTS), list(RULES))


def stay(clock, period=None):
    """The lead that stays, of the step as period if none is told."""
    first, step = clock
    period = step if period is None else period
    return Lead(clock, clock, period, [v for v in range(period) if (v - first) % step == 0])


def risen_table(points, rules, doors):
    """The table of a network between doors by rising (S5.1), or None if it has no timetable."""
    names = [point[0] for point in points]
    if risen(points, rules, [0] * len(points)) is None:
        return None
    clocks, period = clocks_of(points), period_of(points)
    leads = []
    for p in doors:
        rows = [risen(points, rules, [v if name == p else None for name in names]) for v in rests_of(clocks[p], period)]
        for q in doors:
            row = [numbers[names.index(q)] for numbers in rows]
            if None not in row:
                leads.append((p, q, Lead(clocks[p], clocks[q], period, row)))
    return Table([(name, *clocks[name]) for name in doors], period, leads)


def nested(depth, wrap, inner):
    value = inner
    for _ in range(depth):
        value = wrap(value)
    return value


def anything():
    """New values of all kinds that may be passed where an argument may be anything."""
    return [
        0, 1, -1, 60, 10 ** 40 - 1, 1 - 10 ** 40, True, False, None,
        "", "a", "z9", "A", " ", "\n", "\t", "-", "0", "abcdefghijklm",
        [], (), {}, [0], (0,), [None], [[]], ((),), {"a": 0}, {0: ["a"]},
        ["a"], ("a",), ("a", 0), ("a", 0, 1), ["a", 0, 1], [("a", 0, 1)], ("a", "b", []),
        nested(40, lambda value: [value], 0),
        nested(40, lambda value: (value,), "a"),
        nested(40, lambda value: {"a": value}, None),
        Network([], []), sample(), stay((0, 1)), Table([], 1, []), Table([("a", 0, 1)], 2, [("a", "a", stay((0, 1), 2))]),
        Program([]), Program([LEG, TRIP]),
    ]


def shape(value):
    """A value with the classes of all its parts, so that 1, True and lists and tuples are told apart."""
    if isinstance(value, Network):
        return ("network", shape(value.points()), shape(value.rules()))
    if isinstance(value, Lead):
        return ("lead", shape((value.start(), value.end(), value.period(), value.row())))
    if isinstance(value, Table):
        names = [door[0] for door in value.doors()]
        leads = [value.lead(p, q) for p in names for q in names]
        return ("table", shape(value.doors()), shape(value.period()), shape(leads))
    if isinstance(value, Program):
        return ("program", shape(value.modules()))
    if isinstance(value, (list, tuple)):
        return (type(value), [shape(member) for member in value])
    if isinstance(value, dict):
        return (type(value), [(shape(key), shape(value[key])) for key in value])
    return (type(value), value)


def lists_in(value):
    """All lists and dicts within a value."""
    if isinstance(value, (list, tuple)):
        found = [value] if isinstance(value, list) else []
        for member in value:
            found += lists_in(member)
        return found
    if isinstance(value, dict):
        return [value] + lists_in(list(value.values()))[1:]
    return []


class Case(unittest.TestCase):
    maxDiff = None

    def told(self, function, *arguments):
        """What a function returns, checked to be the same again, new, and to leave what is passed."""
        before = shape(arguments)
        result = function(*arguments)
        self.assertEqual(shape(arguments), before)
        again = function(*copy.deepcopy(arguments))
        self.assertEqual(shape(result), shape(again))
        again = function(*arguments)
        self.assertEqual(shape(result), shape(again))
        lists = lists_in(result) + lists_in(again)
        self.assertEqual(len({id(one) for one in lists}), len(lists))
        passed = {id(one) for one in lists_in(arguments)}
        self.assertEqual([one for one in lists if id(one) in passed], [])
        return result

    def tells(self, expected, function, *arguments):
        self.assertEqual(shape(self.told(function, *arguments)), shape(expected), arguments)

    def refused(self, error, attributes, function, *arguments):
        """Checks that a call raises just this error, with these attributes, each time, and changes nothing."""
        before = shape(arguments)
        for _ in range(2):
            with self.assertRaises(error, msg=arguments) as caught:
                function(*arguments)
            self.assertIs(type(caught.exception), error)
            for name, value in attributes.items():
                self.assertEqual(shape(getattr(caught.exception, name)), shape(value), arguments)
            self.assertEqual(shape(arguments), before)
