"""Walks, and rings that gain."""

import random
import unittest

from roundticks.errors import NoWay
from roundticks.networks import Network, with_least, with_rules
from roundticks.walks import judge_ring, led
from tests.case import POINTS, RULES, Case, anything, nested, sample
from tests.oracle import gains, led_by, some_networks, up_of


def some_walk(chance, rules, name, most):
    """A walk by chance from the point with a name."""
    walk = []
    while len(walk) < most:
        ways = [k for k, rule in enumerate(rules) if rule[0] == name]
        if not ways:
            break
        walk.append(chance.choice(ways))
        name = rules[walk[-1]][1]
    return walk


class Led(Case):
    def leads(self, expected, network, name, number, walk):
        for some in (list, tuple):
            self.tells(expected, led, network, name, number, some(walk))

    def test_the_examples(self):
        for number, steps in [(0, (3, 6, 0)), (1, (3, 6, 0)), (2, (5, 6, 0)), (3, (5, 6, 0))]:
            for many in (1, 2, 3):
                self.leads(steps[many - 1], sample(), "a", number, [0, 1, 2][:many])
        for number, steps in [(0, (3, 6, 2)), (2, (5, 6, 2))]:
            for many in (1, 2, 3):
                self.leads(steps[many - 1], with_least(sample(), 2, -4), "a", number, [0, 1, 2][:many])
        gaining = with_least(sample(), 2, -2)
        for number, steps in [(1, (3, 6, 4)), (4, (7, 9, 7))]:
            for many in (1, 2, 3):
                self.leads(steps[many - 1], gaining, "a", number, [0, 1, 2][:many])
        self.leads(7, gaining, "a", 1, [0, 1, 2, 0, 1, 2])

    def test_walks_from_other_points(self):
        self.leads(6, sample(), "b", 5, [1])
        self.leads(0, sample(), "b", 5, [1, 2])
        self.leads(3, sample(), "b", 5, [1, 2, 0])
        self.leads(-6, sample(), "c", 0, [2])
        self.leads(-3, sample(), "c", 0, [2, 0])

    def test_walks_without_rules(self):
        for name, number in [("a", 0), ("a", -7), ("b", 1), ("b", -5), ("c", 3 * 10 ** 30), ("c", -9)]:
            self.leads(number, sample(), name, number, [])
        self.leads(4, Network([("a", 0, 1)], []), "a", 4, [])

    def test_rules_to_the_point_itself(self):
        network = Network([("a", 1, 5)], [("a", "a", 0), ("a", "a", 1), ("a", "a", -6)])
        self.leads(1, network, "a", 1, [0])
        self.leads(6, network, "a", 1, [1])
        self.leads(-4, network, "a", 1, [2])
        self.leads(6, network, "a", 1, [0, 1, 2, 1, 0])
        self.leads(-4, network, "a", 1, [1, 2, 2])

    def test_numbers_a_period_further_on(self):
        chance = random.Random(2)
        for points, rules in some_networks(31, 120):
            network = Network(points, rules)
            for name, first, step in points:
                walk = some_walk(chance, rules, name, 12)
                number = first + step * chance.randint(-9, 9)
                expected = led_by(points, rules, number, walk)
                self.leads(expected, network, name, number, walk)
                for times in (1, -1, 5, -10 ** 20):
                    more = times * network.period()
                    self.leads(expected + more, network, name, number + more, walk)

    def test_each_step_rounds_up(self):
        for first in (-3, 0, 4):
            for step in (1, 2, 7, 60):
                network = Network([("a", 0, 1), ("b", first, step)], [("a", "b", -2)])
                for number in range(-65, 65, 3):
                    self.leads(up_of((first, step), number - 2), network, "a", number, [0])

    def test_long_walks(self):
        self.leads(0, sample(), "a", 0, [0, 1, 2] * 1333)
        self.leads(6, sample(), "a", 0, [0, 1, 2] * 1332 + [0, 1])
        gaining = with_least(sample(), 2, -2)
        self.leads(1 + 6 * 666, gaining, "a", 1, [0, 1, 2] * 1332)
        great = 10 ** 30
        network = Network([("a", 0, 1), ("b", 0, 1)], [("a", "b", great), ("b", "a", great), ("a", "a", -great)])
        self.leads(4000 * great, network, "a", 0, [0, 1] * 2000)
        self.leads(7 - 4000 * great, network, "a", 7, [2] * 4000)

    def test_rules_that_are_no_list(self):
        for value in anything():
            if type(value) not in (list, tuple):
                self.refused(NoWay, {}, led, sample(), "a", 0, value)
        for value in ({}, {0: 0}, "", "0", None, True, False, 0, sample()):
            self.refused(NoWay, {}, led, sample(), "a", 0, value)

    def no_way(self, network, name, number, walk):
        for some in (list, tuple):
            self.refused(NoWay, {}, led, network, name, number, some(walk))

    def test_members_that_are_no_numbers_of_rules(self):
        loops = Network([("a", 0, 1)], [("a", "a", 0), ("a", "a", 1)])
        self.leads(1, loops, "a", 0, [1])
        for value in anything() + [2, 3, -2, "0", nested(40, lambda value: [value], 0)]:
            if not (type(value) is int and value in (0, 1)):
                self.no_way(loops, "a", 0, [value])
                self.no_way(loops, "a", 0, [0, value])
                self.no_way(loops, "a", 0, [value, 0])
        for value in (True, False, -1, -3, 3):
            self.no_way(sample(), "a", 0, [value])
            self.no_way(sample(), "a", 0, [0, value])
        self.no_way(Network([("a", 0, 1)], []), "a", 0, [0])

    def test_rules_that_start_elsewhere(self):
        for name, k in [("a", 1), ("a", 2), ("b", 0), ("b", 2), ("c", 0), ("c", 1)]:
            number = {"a": 0, "b": 1, "c": 0}[name]
            self.no_way(sample(), name, number, [k])
            self.no_way(sample(), name, number, [k, (k + 1) % 3])

    def test_rules_that_do_not_follow_each_other(self):
        for walk in [(0, 0), (0, 2), (0, 1, 0), (0, 1, 1), (0, 1, 2, 1), (0, 1, 2, 0, 2), (0, 1, 2) * 1000 + (1,)]:
            self.no_way(sample(), "a", 0, walk)

    def test_values_of_all_kinds(self):
        for value in anything():
            if type(value) not in (list, tuple) or list(value) not in ([], [0]):
                self.refused(NoWay, {}, led, sample(), "a", 0, value)
                self.refused(NoWay, {}, led, sample(), "b", 1, value)


class JudgeRing(Case):
    def test_the_examples(self):
        gaining = with_least(sample(), 2, -2)
        self.tells(True, judge_ring, gaining, ("a", 1, (0, 1, 2, 0, 1, 2)))
        self.tells(False, judge_ring, gaining, ("a", 1, (0, 1, 2)))
        for least in (-6, -4):
            for number in range(-6, 7):
                for times in range(1, 8):
                    self.tells(False, judge_ring, with_least(sample(), 2, least), ("a", number, (0, 1, 2) * times))

    def test_rings_of_the_other_points(self):
        gaining = with_least(sample(), 2, -2)
        self.tells(True, judge_ring, gaining, ("b", 1, (1, 2, 0) * 3))
        self.tells(True, judge_ring, gaining, ("c", 9, (2, 0, 1) * 2))
        self.tells(False, judge_ring, gaining, ("c", 6, (2, 0, 1)))

    def test_what_is_no_ring(self):
        gaining = with_least(sample(), 2, -2)
        walk = (0, 1, 2, 0, 1, 2)
        for value in [["a", 1, walk], ("a", 1), ("a", 1, walk, 0), ("a", 1, list(walk)), ("a", 1, ()), ("a", 1, 0),
                      ("a", 1, None), ("a", 1, "012"), ("a", 1, {}), (("a", 1, walk),), ("a", (1, walk)), (), None, walk,
                      ("a", 1, walk + (0,)), ("a", 1, walk[:5]), ("a", 1, (1, 2, 0, 1, 2, 0)), ("a", 1, (0, 2, 1) * 2),
                      ("a", 1, (0, 1, 2, 3)), ("a", 1, (0, 1, -1, 0, 1, -1)), ("a", 1, (False, True, 2) * 2),
                      ("a", 1, (0, True, 2, 0, 1, 2)), ("a", 1, ((0, 1, 2, 0, 1, 2),)), ("a", 1, (0, 1, 2, None)),
                      ("a", 1, (0, 1, 2, [0], 1, 2)), (1, "a", walk), {"a": 1}]:
            self.tells(False, judge_ring, gaining, value)

    def test_names_and_numbers(self):
        gaining = with_least(sample(), 2, -2)
        for value in anything() + ["d", "ab"]:
            if value != "a":
                self.tells(False, judge_ring, gaining, (value, 1, (0, 1, 2) * 4))
            if type(value) is not int:
                self.tells(False, judge_ring, gaining, ("a", value, (0, 1, 2) * 4))
            self.tells(False, judge_ring, gaining, value)
            self.tells(False, judge_ring, gaining, ("a", 1, value))
        for number in range(-6, 6):
            self.tells(number % 2 == 1, judge_ring, gaining, ("b", number, (1, 2, 0) * 3))
            self.tells(number % 3 == 0, judge_ring, gaining, ("c", number, (2, 0, 1) * 3))

    def test_true_is_no_number(self):
        network = Network([("a", 0, 1)], [("a", "a", 1), ("a", "a", 2)])
        self.tells(True, judge_ring, network, ("a", 1, (1,)))
        self.tells(True, judge_ring, network, ("a", 0, (0,)))
        for ring in [("a", True, (1,)), ("a", False, (0,)), ("a", 1, (True,)), ("a", 0, (False,)), ("a", 0, (0, True))]:
            self.tells(False, judge_ring, network, ring)

    def test_just_a_period_and_one_number_less(self):
        for step in (1, 2, 5, 60):
            network = Network([("a", 3, step), ("b", 0, 60)], [("a", "a", 60), ("a", "a", 60 - step), ("a", "a", 0)])
            for number in (3, 3 + step, 3 - 7 * step):
                self.tells(True, judge_ring, network, ("a", number, (0,)))
                self.tells(False, judge_ring, network, ("a", number, (1,)))
                self.tells(False, judge_ring, network, ("a", number, (2,) * 70))
                self.tells(True, judge_ring, network, ("a", number, (2, 0, 2)))
                self.tells(step < 60, judge_ring, network, ("a", number, (1,) * 60))
        network = Network([("a", 0, 1), ("b", 0, 2), ("c", 0, 3)], [("a", "a", 1)])
        for times in range(1, 15):
            self.tells(times >= 6, judge_ring, network, ("a", -4, (0,) * times))

    def test_the_period_is_that_of_the_network(self):
        rules = [("a", "a", 1)]
        self.tells(True, judge_ring, Network([("a", 0, 1)], rules), ("a", 0, (0,)))
        self.tells(False, judge_ring, Network([("a", 0, 1), ("b", 0, 2)], rules), ("a", 0, (0,)))
        self.tells(True, judge_ring, Network([("a", 0, 1), ("b", 0, 2)], rules), ("a", 0, (0, 0)))

    def test_rings_gone_round_several_times(self):
        gaining = with_least(sample(), 2, -2)
        for times in range(1, 12):
            self.tells(times >= 2, judge_ring, gaining, ("a", 1, (0, 1, 2) * times))
        self.tells(True, judge_ring, gaining, ("a", 1, (0, 1, 2) * 1333))
        self.tells(False, judge_ring, sample(), ("a", 1, (0, 1, 2) * 1333))

    def test_by_chance(self):
        chance = random.Random(4)
        found = 0
        for points, rules in some_networks(41, 200):
            network = Network(points, rules)
            for name, first, step in points:
                walk = tuple(some_walk(chance, rules, name, chance.randint(1, 30)))
                for end in range(len(walk) + 1):
                    ring = (name, first + step * chance.randint(-5, 5), walk[:end])
                    expected = gains(points, rules, ring)
                    self.assertIs(judge_ring(network, ring), expected)
                    found += expected
        self.assertGreater(found, 50)

    def test_more_rules_leave_a_ring_as_it_is(self):
        gaining = with_rules(Network(POINTS, []), RULES[:2] + [("c", "a", -2)])
        self.tells(True, judge_ring, gaining, ("a", 1, (0, 1, 2, 0, 1, 2)))


if __name__ == "__main__":
    unittest.main()
