"""What is refused as a network, told by its path (S1.6)."""

import unittest

from roundticks.errors import BadNetwork
from roundticks.networks import Network
from tests.case import Case, anything, nested

NO_NAMES = [None, True, False, 0, 1, "", "A", "1a", "a b", "abcdefghijklm", [], ["b"], {}, {"b": 1}, (), ("b",), ("b", []),
            nested(40, lambda value: [value], "b")]
NO_INTEGERS = [None, True, False, "", "0", [], [0], (), (0,), {}, {0: 0}, Network([], [])]
NO_STEPS = NO_INTEGERS + [0, -1, -60, 61, 62, 10 ** 30]
NO_TRIPLES = [None, True, 0, "", "abc", "b01", [], ["b", 0, 1], {}, {"b": 0, "c": 1, "d": 2}, (), ("b",), ("b", 0),
              ("b", 0, 1, 1), (("b", 0, 1),), [("b", 0, 1)], Network([], [])]
NO_LISTS = [None, True, False, 0, 1, "", "abc", {}, {0: ("a", 0, 1)}, {("a", 0, 1): 0}, Network([], [])]


class Refused(Case):
    def check(self, path, points, rules):
        """The path is told for lists and for tuples of points and of rules."""
        for some in (list, tuple):
            for others in (list, tuple):
                told = others(rules) if isinstance(rules, list) else rules
                self.refused(BadNetwork, {"path": path}, Network, some(points), told)

    def test_points_that_are_no_list(self):
        for value in NO_LISTS:
            for rules in ([], [("a", "a", 0)], None, 5):
                self.refused(BadNetwork, {"path": (0,)}, Network, value, rules)

    def test_rules_that_are_no_list(self):
        for value in NO_LISTS:
            for points in ([], (), [("a", 0, 1)]):
                self.refused(BadNetwork, {"path": (1,)}, Network, points, value)

    def test_points_that_are_no_triples(self):
        for point in NO_TRIPLES:
            self.check((0, 0), [point], [])
            self.check((0, 1), [("a", 0, 1), point], [])
            self.check((0, 1), [("a", 0, 1), point, ("c", 0, 1)], [])
            self.check((0, 0), [point, point], [None])
            self.check((0, 0), [point], None)

    def test_names_of_points(self):
        for name in NO_NAMES:
            self.check((0, 0, 0), [(name, 0, 1)], [])
            self.check((0, 1, 0), [("a", 0, 1), (name, 0, 1)], [])
            for first in (0, None):
                for step in (1, 0, None):
                    self.check((0, 1, 0), [("a", 0, 1), (name, first, step), ("c", None, 0)], [None])

    def test_names_told_twice(self):
        self.check((0, 1, 0), [("a", 0, 1), ("a", 0, 1)], [])
        self.check((0, 1, 0), [("a", 0, 1), ("a", None, 0)], [])
        self.check((0, 2, 0), [("a", 0, 1), ("b", 0, 1), ("a", 5, 7)], [])
        self.check((0, 3, 0), [("a", 0, 1), ("b", 0, 1), ("c", 0, 1), ("b", 0, 1)], [("a", "a", None)])
        self.check((0, 1, 0), [("a", 0, 1), ("a", 0, 1), ("a", 0, 1)], [])

    def test_a_wrong_point_behind_a_name_told_twice_is_later(self):
        self.check((0, 1, 0), [("a", 0, 1), ("a", 0, 1), None], [])
        self.check((0, 1), [("a", 0, 1), None, ("a", 0, 1)], [])

    def test_firsts(self):
        for first in NO_INTEGERS:
            self.check((0, 0, 1), [("a", first, 1)], [])
            for step in (1, 0, 61, None, True):
                self.check((0, 1, 1), [("a", 0, 1), ("b", first, step), ("a", 0, 0)], [("a", "x", 0)])

    def test_steps(self):
        for step in NO_STEPS:
            self.check((0, 0, 2), [("a", 0, step)], [])
            self.check((0, 1, 2), [("a", 0, 1), ("b", -3, step), (1, 0, 0)], [("a", "x", 0)])
            self.check((0, 0, 2), [("a", 0, step), ("a", 0, 1)], None)

    def test_steps_from_1_to_60_are_taken(self):
        for step in range(1, 61):
            self.assertEqual(Network([("a", 0, step)], []).points(), [("a", 0, step)])
        for step in (0, 61):
            self.check((0, 0, 2), [("a", 0, step)], [])

    def test_each_point_is_looked_at_completely(self):
        self.check((0, 0, 2), [("a", 0, 0), (None, 0, 1)], [])
        self.check((0, 0, 2), [("a", 0, 0), ("b", None, 1)], [])
        self.check((0, 0, 2), [("a", 0, 0), None], [])
        self.check((0, 0, 1), [("a", None, 1), (None, 0, 1)], [])
        self.check((0, 0, 1), [("a", None, 1), ()], [])
        self.check((0, 0, 0), [("", 0, 1), ()], [])

    def test_points_are_ahead_of_rules(self):
        for rules in (None, 0, [None], [()], [("a", "b", 0)], [("a", "a", None)]):
            self.check((0, 1, 2), [("a", 0, 1), ("b", 0, 0)], rules)
            self.check((0, 1), [("a", 0, 1), 7], rules)

    def test_rules_that_are_no_triples(self):
        for rule in [None, True, 0, "", "aa0", [], ["a", "a", 0], {}, (), ("a",), ("a", "a"), ("a", "a", 0, 0),
                     (("a", "a", 0),), Network([], [])]:
            self.check((1, 0), [("a", 0, 1)], [rule])
            self.check((1, 1), [("a", 0, 1)], [("a", "a", 0), rule, ("x", "a", 0)])
            self.check((1, 0), [("a", 0, 1)], [rule, rule])

    def test_starts_and_ends(self):
        points = [("a", 0, 1), ("b", 0, 1)]
        for name in [name for name in NO_NAMES if name != "b"] + ["c", "ab", "a ", ("a", 0, 1), ("a",), ["a"]]:
            for end in ("b", "c", None, []):
                for least in (0, None, True):
                    self.check((1, 0, 0), points, [(name, end, least)])
                    self.check((1, 1, 0), points, [("a", "b", 0), (name, end, least), (name, "b", 0)])
            for least in (0, None, True):
                self.check((1, 0, 1), points, [("a", name, least)])
                self.check((1, 2, 1), points, [("a", "b", 0), ("b", "b", 1), ("a", name, least), None])

    def test_leasts(self):
        points = [("a", 0, 1), ("b", 0, 1)]
        for least in NO_INTEGERS:
            self.check((1, 0, 2), points, [("a", "b", least)])
            self.check((1, 1, 2), points, [("a", "b", 0), ("b", "a", least), ("x", "a", 0)])
            self.check((1, 0, 2), points, [("a", "a", least), None])

    def test_each_rule_is_looked_at_completely(self):
        points = [("a", 0, 1)]
        self.check((1, 0, 2), points, [("a", "a", None), None])
        self.check((1, 0, 2), points, [("a", "a", None), ("b", "a", 0)])
        self.check((1, 0, 1), points, [("a", "b", 0), ("b", "a", 0)])
        self.check((1, 0, 0), points, [("b", "a", 0), ()])

    def test_rules_of_no_points(self):
        self.check((1, 0, 0), [], [("a", "a", 0)])
        self.check((1, 0), [], [None])

    def test_values_of_all_kinds(self):
        for value in anything():
            if type(value) not in (list, tuple):
                self.refused(BadNetwork, {"path": (0,)}, Network, value, value)
                self.refused(BadNetwork, {"path": (1,)}, Network, [], value)
            if type(value) is not tuple or len(value) != 3:
                self.refused(BadNetwork, {"path": (0, 0)}, Network, [value], [])
                self.refused(BadNetwork, {"path": (1, 0)}, Network, [("a", 0, 1)], [value])
            if value not in ("a", "z9"):
                self.refused(BadNetwork, {"path": (0, 0, 0)}, Network, [(value, 0, 1)], [])
                self.refused(BadNetwork, {"path": (1, 0, 0)}, Network, [("a", 0, 1)], [(value, "a", 0)])
                self.refused(BadNetwork, {"path": (1, 0, 1)}, Network, [("a", 0, 1)], [("a", value, 0)])
            if type(value) is not int:
                self.refused(BadNetwork, {"path": (0, 0, 1)}, Network, [("a", value, 1)], [])
                self.refused(BadNetwork, {"path": (1, 0, 2)}, Network, [("a", 0, 1)], [("a", "a", value)])
            if type(value) is not int or not 1 <= value <= 60:
                self.refused(BadNetwork, {"path": (0, 0, 2)}, Network, [("a", 0, value)], [])

    def test_more_points_and_rules_than_the_limits_are_judged(self):
        points = [(f"p{k}", k, 1 + k % 60) for k in range(500)]
        rules = [(f"p{k}", f"p{499 - k}", k) for k in range(500)]
        self.check((0, 500), points + [[]], rules)
        self.check((0, 500, 0), points + [("p499", 0, 1)], rules)
        self.check((1, 500, 1), points, rules + [("p0", "p500", 0)])


if __name__ == "__main__":
    unittest.main()
