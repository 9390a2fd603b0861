"""Least and greatest distances, from all numbers and from one, and slack (S8.5, S8.6, S8.7), against boxes of timetables."""

import itertools
import random
import unittest

from roundticks.distances import distances, distances_from, slack
from roundticks.elimination import possible_numbers
from roundticks.errors import Gain, NoWay
from roundticks.networks import Network, with_least, with_rules, without_rule
from tests.case import POINTS, Case, sample
from tests.oracle import clocks_of, gains, is_timetable, period_of, reached, risen, some_networks
from tests.test_following import NONE, box, has_one


def rests_tied(points, rules, p, v):
    """The rules that tie a point to a number: z, which is put behind the points, is taken as 0 there."""
    return points + [("z", 0, period_of(points))], rules + [("z", p, v), (p, "z", -v)]


def least_after(points, rules, p, q, most=400):
    """The least that q is after p in any timetable, by the last rule that all keep; None for no bound."""
    if q not in reached(rules, [p]):
        return None
    low, high = -most, most
    assert not has_one(points, rules + [(q, p, 1 - low)])
    assert has_one(points, rules + [(q, p, 1 - high)])
    while high - low > 1:
        middle = (low + high) // 2
        if has_one(points, rules + [(q, p, 1 - middle)]):
            high = middle
        else:
            low = middle
    return low


def both_ways(points, rules, p, q):
    back = least_after(points, rules, q, p)
    return least_after(points, rules, p, q), None if back is None else -back


class DistanceCase(Case):
    def gained(self, function, network, *arguments):
        rings = []
        for _ in range(2):
            with self.assertRaises(Gain) as caught:
                function(network, *arguments)
            self.assertIs(type(caught.exception), Gain)
            rings.append(caught.exception.ring)
        self.assertEqual(rings[0], rings[1])
        self.assertTrue(gains(network.points(), network.rules(), rings[0]))
        self.assertLessEqual(len(rings[0][2]), 60 * len(network.points()))

    def check(self, network, p, q):
        """Both distances are as the test's own way tells, also from each number near 0."""
        points, rules = network.points(), network.rules()
        expected = both_ways(points, rules, p, q)
        self.tells(expected, distances, network, p, q)
        possible = possible_numbers(network, p)
        period = network.period()
        for v in range(-period, 2 * period):
            if v % period not in possible:
                self.refused(NoWay, {}, distances_from, network, p, v, q)
                continue
            tied, more = rests_tied(points, rules, p, v)
            least = risen(points, rules, [v if name == p else None for name in network.names()])[network.index(q)]
            greatest = both_ways(tied, more, "z", q)[1] if p in reached(rules, [q]) else None
            self.tells((None if least is None else least - v, None if greatest is None else greatest - v), distances_from, network, p, v, q)
        return expected


class Distances(DistanceCase):
    def test_the_example(self):
        self.tells((3, 6), distances, sample(), "a", "c")
        self.tells((2, 5), distances, sample(), "a", "b")
        self.tells((-6, -3), distances, sample(), "c", "a")
        self.tells((5, 5), distances_from, sample(), "a", 4, "c")

    def test_against_all_timetables_of_a_box(self):
        for network in (sample(), with_least(sample(), 2, -4), with_least(sample(), 2, -5), with_rules(sample(), [("a", "c", 5)])):
            numbers = box(network.points(), network.rules(), -15, 25)
            for (i, p), (j, q) in itertools.product(enumerate("abc"), repeat=2):
                all_ways = [told[j] - told[i] for told in numbers]
                self.tells((min(all_ways), max(all_ways)), distances, network, p, q)
                for v in range(0, 7):
                    ways = [told[j] - v for told in numbers if told[i] == v]
                    if ways:
                        self.tells((min(ways), max(ways)), distances_from, network, p, v, q)
                    else:
                        self.refused(NoWay, {}, distances_from, network, p, v, q)

    def test_no_bound_in_one_direction_and_in_both(self):
        network = Network([("a", 0, 2), ("b", 0, 3), ("c", 5, 1)], [("a", "b", 4)])
        self.tells((4, None), distances, network, "a", "b")
        self.tells((None, -4), distances, network, "b", "a")
        self.tells((None, None), distances, network, "a", "c")
        self.tells((None, None), distances, network, "c", "b")
        self.tells((4, None), distances_from, network, "a", 2, "b")
        self.tells((5, None), distances_from, network, "a", -2, "b")
        self.tells((None, -5), distances_from, network, "b", 3, "a")
        self.tells((None, -4), distances_from, network, "b", 6, "a")
        self.tells((None, None), distances_from, network, "c", 10 ** 30, "a")

    def test_from_a_point_to_itself(self):
        for network in (sample(), with_least(sample(), 2, -4), Network([("a", 3, 5)], [])):
            for name in network.names():
                self.tells((0, 0), distances, network, name, name)
                v = possible_numbers(network, name)[0]
                self.tells((0, 0), distances_from, network, name, v - 10 * network.period(), name)

    def test_numbers_that_are_not_possible(self):
        network = with_least(sample(), 2, -4)
        for v in (0, 1, 4, 6, 7, -2, -5, 60):
            for q in "abc":
                self.refused(NoWay, {}, distances_from, network, "a", v, q)
        for v in (2, 3, 5, 8, -1, -3, -4, 6 * 10 ** 29 + 2):
            for q in "abc":
                self.told(distances_from, network, "a", v, q)
        # Numbers off the clock.
        for v in (0, 2, -2, 10 ** 30):
            self.refused(NoWay, {}, distances_from, sample(), "b", v, "a")
        for v in (1, 2, -1, 10 ** 30):
            self.refused(NoWay, {}, distances_from, sample(), "c", v, "c")

    def test_gain_ahead_of_all_else(self):
        for p, q in itertools.product("abc", repeat=2):
            self.gained(distances, NONE, p, q)
            for v in (0, 1, 2):
                self.gained(distances_from, NONE, p, v, q)
        for number in range(3):
            self.gained(slack, NONE, number)
        # Without this rule it would have a timetable.
        self.gained(slack, with_rules(sample(), [("b", "b", 1)]), 3)

    def test_networks_by_chance(self):
        chance = random.Random(301)
        bounds = {}
        for points, rules in some_networks(302, 90, steps=(1, 2, 3), most=4):
            network = Network(points, rules)
            names = network.names()
            p, q = chance.choice(names), chance.choice(names)
            if not has_one(points, rules):
                self.gained(distances, network, p, q)
                continue
            least, greatest = self.check(network, p, q)
            kind = (least is None, greatest is None)
            bounds[kind] = bounds.get(kind, 0) + 1
        self.assertEqual(len(bounds), 4)

    def test_the_clock_may_be_told_by_any_first(self):
        network = Network([("a", 10 ** 30, 1), ("b", -7, 2), ("c", 3 * 10 ** 20, 3)], sample().rules())
        self.tells((3, 6), distances, network, "a", "c")
        self.tells((5, 5), distances_from, network, "a", 4, "c")
        self.tells((5, 5), distances_from, network, "a", 6 * 10 ** 29 + 4, "c")


class Slack(DistanceCase):
    def check_slack(self, network, number):
        """With its slack a rule leaves a timetable, with one more it does not."""
        found = self.told(slack, network, number)
        least = network.rules()[number][2]
        if found is None:
            for more in (0, 1, 10 ** 30):
                self.assertTrue(has_one(network.points(), with_least(network, number, least + more).rules()))
            return None
        self.assertIs(type(found), int)
        self.assertTrue(has_one(network.points(), with_least(network, number, least + found).rules()))
        self.assertFalse(has_one(network.points(), with_least(network, number, least + found + 1).rules()))
        return found

    def test_the_example(self):
        self.assertEqual(self.check_slack(sample(), 2), 3)
        self.assertTrue(is_timetable(POINTS, with_least(sample(), 2, -3).rules(), (3, 5, 6)))
        for number in (0, 1):
            self.assertGreater(self.check_slack(sample(), number), 0)

    def test_none_at_all_and_some(self):
        network = Network([("a", 0, 1), ("b", 0, 1)], [("a", "b", 4), ("b", "a", -4)])
        for number in (0, 1):
            self.assertEqual(self.check_slack(network, number), 0)
        network = Network([("a", 0, 2), ("b", 0, 2)], [("a", "b", 3), ("b", "a", -5)])
        self.assertEqual([self.check_slack(network, number) for number in (0, 1)], [1, 1])

    def test_no_bound(self):
        network = Network([("a", 0, 2), ("b", 0, 3), ("c", 0, 1)], [("a", "b", 4), ("a", "c", 1), ("c", "b", 0)])
        for number in range(3):
            self.assertIsNone(self.check_slack(network, number))

    def test_a_rule_from_a_point_to_itself(self):
        network = with_rules(sample(), [("a", "a", -5), ("b", "b", 0)])
        self.assertEqual(self.check_slack(network, 3), 5)
        self.assertEqual(self.check_slack(network, 4), 0)
        self.assertEqual(self.check_slack(Network([("a", 0, 60)], [("a", "a", -61)]), 0), 61)

    def test_a_rule_that_is_told_twice(self):
        network = with_rules(sample(), [("c", "a", -6)])
        self.assertEqual(self.check_slack(network, 2), 3)
        self.assertEqual(self.check_slack(network, 3), 3)
        network = with_rules(sample(), [("c", "a", -4)])
        self.assertEqual(self.check_slack(network, 2), 3)
        self.assertEqual(self.check_slack(network, 3), 1)

    def test_networks_by_chance(self):
        found = []
        for points, rules in some_networks(303, 150):
            network = Network(points, rules)
            if has_one(points, rules):
                found += [self.check_slack(network, number) for number in range(len(rules))]
                for number in range(len(rules)):
                    start, end, least = rules[number]
                    greatest = distances(without_rule(network, number), start, end)[1]
                    self.assertEqual(slack(network, number), None if greatest is None else greatest - least)
        self.assertGreater(found.count(None), 20)
        self.assertGreater(found.count(0), 0)
        self.assertGreater(len([one for one in found if one is not None and one > 0]), 40)

    def test_great_numbers(self):
        far = 10 ** 30
        network = Network([("a", far, 6), ("b", -far, 4), ("c", 5, 5)], [("a", "b", far), ("b", "c", far), ("c", "a", -3 * far)])
        for number in range(3):
            self.assertGreater(self.check_slack(network, number), far - 100)
        clocks = clocks_of(network.points())
        least, greatest = distances_from(network, "a", clocks["a"][0] + 600, "c")
        self.assertTrue(2 * far <= least <= greatest <= 3 * far)


if __name__ == "__main__":
    unittest.main()
