"""Networks that are made of others."""

import unittest

from roundticks.errors import BadNetwork, UnknownName
from roundticks.networks import (Network, part_of, with_least, with_points, with_rules, without_point, without_rule)
from tests.case import POINTS, RULES, Case, anything, sample

NO_LISTS = [None, True, False, 0, 1, "", "abc", {}, {0: ("d", 0, 1)}]


class Changed(Case):
    def becomes(self, points, rules, function, *arguments):
        """The network returned has these parts, and the one that was passed stays as it is."""
        result = self.told(function, *arguments)
        self.assertIs(type(result), Network)
        self.assertEqual(result.points(), points)
        self.assertEqual(result.rules(), rules)
        self.assertEqual(arguments[0], sample())
        self.assertTrue(result == Network(points, rules))
        for k, point in enumerate(points):
            self.assertEqual(result.index(point[0]), k)

    def test_with_points(self):
        more = [("d", 4, 60), ("a1", -1, 7)]
        for some in (list, tuple):
            self.becomes(POINTS + more, RULES, with_points, sample(), some(more))
            self.becomes(POINTS, RULES, with_points, sample(), some([]))
        result = with_points(sample(), more)
        more.clear()
        self.assertEqual(result.names(), ["a", "b", "c", "d", "a1"])

    def test_points_that_are_refused(self):
        for value in NO_LISTS + [sample()]:
            self.refused(BadNetwork, {"path": (0,)}, with_points, sample(), value)
        for points, path in [([None], (0, 3)), ([["d", 0, 1]], (0, 3)), ([("a", 0, 1)], (0, 3, 0)),
                             ([("c", 0, 3)], (0, 3, 0)), ([("d", None, 0)], (0, 3, 1)), ([("d", 0, 61)], (0, 3, 2)),
                             ([("d", 0, 1), ("d", 0, 1)], (0, 4, 0)), ([("d", 0, 1), ("e", 0, 0), None], (0, 4, 2)),
                             ([("d", 0, 1), ("e", 0, 1), ()], (0, 5))]:
            self.refused(BadNetwork, {"path": path}, with_points, sample(), points)
            self.refused(BadNetwork, {"path": path}, with_points, sample(), tuple(points))

    def test_with_rules(self):
        more = [("a", "a", 0), ("c", "a", -6), ("b", "a", 10 ** 30)]
        for some in (list, tuple):
            self.becomes(POINTS, RULES + more, with_rules, sample(), some(more))
            self.becomes(POINTS, RULES, with_rules, sample(), some([]))
        result = with_rules(sample(), more)
        more.clear()
        self.assertEqual(len(result.rules()), 6)

    def test_rules_that_are_refused(self):
        for value in NO_LISTS + [sample()]:
            self.refused(BadNetwork, {"path": (1,)}, with_rules, sample(), value)
        for rules, path in [([None], (1, 3)), ([["a", "a", 0]], (1, 3)), ([("d", "x", None)], (1, 3, 0)),
                            ([("a", "d", None)], (1, 3, 1)), ([("a", "b", True)], (1, 3, 2)),
                            ([("a", "b", 0), ("a", "b", None), None], (1, 4, 2)),
                            ([("a", "b", 0), ("a", "a", 0), ()], (1, 5)), ([("a", [], 0)], (1, 3, 1))]:
            self.refused(BadNetwork, {"path": path}, with_rules, sample(), rules)
            self.refused(BadNetwork, {"path": path}, with_rules, sample(), tuple(rules))

    def test_more_of_all_kinds(self):
        for value in anything():
            if type(value) not in (list, tuple):
                self.refused(BadNetwork, {"path": (0,)}, with_points, sample(), value)
                self.refused(BadNetwork, {"path": (1,)}, with_rules, sample(), value)
            if type(value) is not tuple or len(value) != 3:
                self.refused(BadNetwork, {"path": (0, 3)}, with_points, sample(), [value])
                self.refused(BadNetwork, {"path": (1, 3)}, with_rules, sample(), [value])

    def test_without_point(self):
        self.becomes(POINTS[1:], [RULES[1]], without_point, sample(), "a")
        self.becomes([POINTS[0], POINTS[2]], [RULES[2]], without_point, sample(), "b")
        self.becomes(POINTS[:2], [RULES[0]], without_point, sample(), "c")

    def test_without_a_point_with_a_rule_to_itself(self):
        network = with_rules(sample(), [("b", "b", 0), ("c", "c", -1), ("a", "c", 7)])
        result = self.told(without_point, network, "b")
        self.assertEqual(result.rules(), [("c", "a", -6), ("c", "c", -1), ("a", "c", 7)])
        result = self.told(without_point, network, "c")
        self.assertEqual(result.rules(), [("a", "b", 2), ("b", "b", 0)])
        alone = Network([("a", 0, 1)], [("a", "a", 0), ("a", "a", -1)])
        self.assertEqual(self.told(without_point, alone, "a"), Network([], []))

    def test_without_a_point_that_is_none(self):
        for value in anything() + ["d", "ab"]:
            if value != "a":
                self.refused(UnknownName, {"name": value}, without_point, sample(), value)

    def test_without_rule(self):
        for k in range(3):
            self.becomes(POINTS, RULES[:k] + RULES[k + 1:], without_rule, sample(), k)
        twice = with_rules(sample(), [RULES[0]])
        self.assertEqual(self.told(without_rule, twice, 0).rules(), [RULES[1], RULES[2], RULES[0]])
        self.assertEqual(self.told(without_rule, twice, 3).rules(), RULES)

    def test_with_least(self):
        for k, (start, end, _) in enumerate(RULES):
            for least in (0, 1, -1, 7, 10 ** 30, -10 ** 30):
                rules = RULES[:k] + [(start, end, least)] + RULES[k + 1:]
                self.becomes(POINTS, rules, with_least, sample(), k, least)

    def test_part_of(self):
        a, b, c = POINTS
        for some in (list, tuple):
            self.becomes(POINTS, RULES, part_of, sample(), some(["a", "b", "c"]))
            self.becomes(POINTS, RULES, part_of, sample(), some(["c", "b", "a"]))
            self.becomes([a, b], RULES[:1], part_of, sample(), some(["b", "a"]))
            self.becomes([a, c], RULES[2:], part_of, sample(), some(["a", "c"]))
            self.becomes([b, c], [RULES[1]], part_of, sample(), some(["c", "b"]))
            self.becomes([b], [], part_of, sample(), some(["b"]))
            self.becomes([], [], part_of, sample(), some([]))

    def test_part_of_names_told_more_than_once(self):
        self.becomes(POINTS[:2], RULES[:1], part_of, sample(), ["b", "a", "b", "b", "a"])
        self.becomes(POINTS[2:], [], part_of, sample(), ["c"] * 50)

    def test_part_of_keeps_rules_to_itself_and_their_order(self):
        network = Network(POINTS, [("c", "c", 1), ("a", "c", 2), ("c", "b", 3), ("c", "a", 4), ("a", "a", 5),
                                   ("a", "c", 2)])
        result = self.told(part_of, network, ["c", "a"])
        self.assertEqual(result.rules(), [("c", "c", 1), ("a", "c", 2), ("c", "a", 4), ("a", "a", 5), ("a", "c", 2)])

    def test_part_of_names_that_are_none(self):
        for value in anything() + ["d", "ab"]:
            if value != "a":
                for names in ([value], ["a", value], ["a", "b", "c", value, "x"], [value, "x"], [value, "a", []]):
                    self.refused(UnknownName, {"name": value}, part_of, sample(), names)
                    self.refused(UnknownName, {"name": value}, part_of, sample(), tuple(names))
        self.refused(UnknownName, {"name": "x"}, part_of, sample(), ["a", "x", "y"])


if __name__ == "__main__":
    unittest.main()
