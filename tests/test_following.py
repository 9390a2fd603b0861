"""Rules that follow, needless rules and kernels (S8.3, S8.4, S8.7), against rises and boxes of timetables."""

import itertools
import random
import unittest

from roundticks.errors import NoWay
from roundticks.following import follows, greatest_least, kernel, needless
from roundticks.networks import Network, with_least, with_rules, without_rule
from tests.case import POINTS, RULES, Case, sample
from tests.oracle import is_timetable, reached, risen, some_networks

NONE = with_least(sample(), 2, -2)


def has_one(points, rules):
    return risen(points, rules, [0] * len(points)) is not None


def box(points, rules, low, high):
    """All timetables with numbers from low to high."""
    values = [[v for v in range(low, high + 1) if (v - first) % step == 0] for _, first, step in points]
    return [numbers for numbers in itertools.product(*values) if is_timetable(points, rules, numbers)]


def is_kept_always(points, rules, rule):
    """Whether a rule follows: with what is against it there is no timetable (S5.7)."""
    p, q, least = rule
    return not has_one(points, rules + [(q, p, 1 - least)])


class FollowingCase(Case):
    def check(self, network, rule):
        """Whether a rule follows, as the test's own way tells, and as it is told."""
        expected = is_kept_always(network.points(), network.rules(), rule)
        self.tells(expected, follows, network, rule)
        return expected

    def check_greatest(self, network, p, q):
        """The greatest least distance is the last one that follows."""
        points, rules = network.points(), network.rules()
        if not has_one(points, rules):
            self.refused(NoWay, {}, greatest_least, network, p, q)
            for least in (-10 ** 30, 0, 10 ** 30):
                self.assertTrue(self.check(network, (p, q, least)))
            return None
        found = self.told(greatest_least, network, p, q)
        if q not in reached(rules, [p]):
            self.assertIsNone(found)
            for least in (-10 ** 30, 0, 10 ** 30):
                self.assertFalse(self.check(network, (p, q, least)))
            return None
        self.assertIs(type(found), int)
        for more, expected in [(0, True), (1, False), (-1, True), (2, False), (-1000, True), (1000, False), (-10 ** 30, True), (10 ** 30, False)]:
            self.assertEqual(self.check(network, (p, q, found + more)), expected)
        return found


class Follows(FollowingCase):
    def test_the_example(self):
        self.tells(True, follows, sample(), ("a", "c", 3))
        self.tells(False, follows, sample(), ("a", "c", 4))
        self.tells(3, greatest_least, sample(), "a", "c")
        self.tells(2, greatest_least, sample(), "a", "b")
        self.tells(-6, greatest_least, sample(), "c", "a")
        self.tells([3], needless, with_rules(sample(), [("a", "c", 3)]))
        self.tells([], needless, with_rules(sample(), [("a", "c", 4)]))

    def test_all_pairs_of_the_example(self):
        for network in (sample(), with_least(sample(), 2, -4), with_least(sample(), 2, -5), with_rules(sample(), [("b", "b", -3), ("a", "c", 5)])):
            numbers = box(network.points(), network.rules(), -12, 24)
            places = {name: k for k, name in enumerate(network.names())}
            for p, q in itertools.product("abc", repeat=2):
                found = self.check_greatest(network, p, q)
                self.assertEqual(found, min(told[places[q]] - told[places[p]] for told in numbers))

    def test_from_a_point_to_itself(self):
        for network in (sample(), with_least(sample(), 2, -4), Network([("a", 5, 7)], []), Network([("a", 0, 2)], [("a", "a", -2)])):
            for name in network.names():
                self.assertEqual(self.check_greatest(network, name, name), 0)

    def test_only_possible_numbers_count(self):
        # a can have 2, 3 and 5 alone, and but for this it would be less far ahead.
        network = with_least(sample(), 2, -4)
        self.assertEqual(self.check_greatest(network, "a", "b"), 2)
        tied = Network([("a", 0, 1), ("z", 0, 6), ("b", 0, 4)], [("a", "z", 2), ("z", "a", -3), ("a", "b", 0)])
        self.assertEqual(self.check_greatest(tied, "a", "b"), 0)
        self.assertEqual(self.check_greatest(tied, "a", "z"), 2)
        self.assertEqual(self.check_greatest(with_rules(tied, [("z", "a", -2)]), "a", "b"), 0)
        self.assertEqual(self.check_greatest(Network([("a", 0, 1), ("z", 1, 4), ("b", 0, 4)], [("a", "z", 0), ("z", "a", 0), ("a", "b", 0)]), "a", "b"), 3)

    def test_where_no_walk_leads(self):
        network = Network([("a", 0, 1), ("b", 0, 2), ("c", 0, 3), ("d", 0, 1)], [("a", "b", 1), ("c", "b", 1)])
        for p, q in itertools.permutations("abcd", 2):
            found = self.check_greatest(network, p, q)
            self.assertEqual(found is None, (p, q) not in [("a", "b"), ("c", "b")])

    def test_without_a_timetable(self):
        for network in (NONE, Network([("a", 0, 1), ("b", 0, 1)], [("b", "b", 1)])):
            for p, q in itertools.product(network.names(), repeat=2):
                self.assertIsNone(self.check_greatest(network, p, q))

    def test_great_numbers(self):
        far = 10 ** 30
        network = Network([("a", -far, 7), ("b", far, 4), ("c", 5, 2)], [("a", "b", far), ("b", "c", -far), ("c", "a", -far)])
        for p, q in itertools.product("abc", repeat=2):
            self.check_greatest(network, p, q)
        for least in (far, far + 1, far + 2, far + 3, far + 4):
            self.check(network, ("a", "b", least))

    def test_networks_by_chance(self):
        chance = random.Random(271)
        counted = {True: 0, False: 0, None: 0}
        for points, rules in some_networks(272, 150):
            network = Network(points, rules)
            names = network.names()
            for _ in range(3):
                p, q = chance.choice(names), chance.choice(names)
                found = self.check_greatest(network, p, q)
                counted[found if found is None else found > 0] += 1
                self.check(network, (p, q, chance.randint(-9, 9)))
        self.assertGreater(min(counted.values()), 15)


class Needless(FollowingCase):
    def check_needless(self, network):
        """The needless rules are those that follow from all others; returns them."""
        expected = [k for k, rule in enumerate(network.rules()) if is_kept_always(network.points(), without_rule(network, k).rules(), rule)]
        self.tells(expected, needless, network)
        return expected

    def check_kernel(self, network):
        """A kernel is as S8.4 says; returns its rules."""
        found = self.told(kernel, network)
        self.assertIs(type(found), Network)
        points, rules, kept = network.points(), network.rules(), found.rules()
        self.assertEqual(found.points(), points)
        rest = iter(rules)
        self.assertTrue(all(rule in rest for rule in kept))
        self.assertEqual(has_one(points, kept), has_one(points, rules))
        for rule in rules:
            self.assertTrue(is_kept_always(points, kept, rule))
        for k, rule in enumerate(kept):
            self.assertFalse(is_kept_always(points, kept[:k] + kept[k + 1:], rule))
        self.tells([], needless, found)
        return kept

    def test_none(self):
        for network in (Network([], []), Network(POINTS, []), sample(), Network([("a", 0, 1), ("b", 1, 3)], [("b", "a", 5)])):
            self.assertEqual(self.check_needless(network), [])
            self.assertEqual(self.check_kernel(network), network.rules())

    def test_rules_that_are_told_twice(self):
        network = Network(POINTS, RULES + RULES[1:2])
        self.assertEqual(self.check_needless(network), [1, 3])
        self.assertEqual(len(self.check_kernel(network)), 3)
        network = Network(POINTS, RULES + RULES + RULES)
        self.assertEqual(self.check_needless(network), list(range(9)))
        self.assertEqual(sorted(self.check_kernel(network)), sorted(RULES))
        # Of two that say the same by the clocks each is needless beside the other one.
        network = Network([("a", 0, 2), ("b", 0, 2)], [("a", "b", 3), ("a", "b", 4)])
        self.assertEqual(self.check_needless(network), [0, 1])
        self.assertEqual(len(self.check_kernel(network)), 1)

    def test_rules_that_are_told_by_others(self):
        network = Network(POINTS, [("a", "c", 3)] + RULES + [("a", "a", -5), ("b", "b", 0), ("a", "c", 2)])
        self.assertEqual(self.check_needless(network), [0, 4, 5, 6])
        self.assertEqual(self.check_kernel(network), RULES)
        # Each one alone is needless, but not all of them are.
        points = [(name, 0, 1) for name in "abcd"]
        ring = [("a", "b", 0), ("b", "a", 0), ("b", "c", 0), ("c", "b", 0), ("a", "c", 0), ("c", "a", 0)]
        self.assertEqual(self.check_needless(Network(points, ring)), [0, 1, 2, 3, 4, 5])
        self.assertIn(len(self.check_kernel(Network(points, ring))), (3, 4))

    def test_rules_from_a_point_to_itself(self):
        network = Network([("a", 0, 2), ("b", 0, 3)], [("a", "a", 0), ("a", "a", -5), ("a", "b", 0), ("b", "b", -3)])
        self.assertEqual(self.check_needless(network), [0, 1, 3])
        self.assertEqual(self.check_kernel(network), [("a", "b", 0)])

    def test_without_a_timetable(self):
        self.assertEqual(self.check_needless(NONE), [])
        self.assertEqual(self.check_kernel(NONE), NONE.rules())
        network = with_rules(NONE, [("a", "c", 0), ("b", "b", -7)])
        self.assertEqual(self.check_needless(network), [3, 4])
        self.assertEqual(self.check_kernel(network), NONE.rules())
        network = with_rules(NONE, [("b", "b", 1), ("c", "c", 1)])
        self.assertEqual(self.check_needless(network), [0, 1, 2, 3, 4])
        self.assertIn(len(self.check_kernel(network)), (1, 3))

    def test_what_has_no_timetable_by_one_rule(self):
        network = with_rules(sample(), [("b", "b", 1)])
        self.assertEqual(self.check_needless(network), [0, 1, 2])
        self.assertEqual(self.check_kernel(network), [("b", "b", 1)])

    def test_networks_by_chance(self):
        many = [0, 0]
        for points, rules in some_networks(273, 150):
            network = Network(points, rules)
            told = self.check_needless(network)
            kept = self.check_kernel(network)
            self.assertLessEqual(len(rules) - len(kept), len(told))
            many[has_one(points, rules)] += len(kept) < len(rules)
        self.assertGreater(min(many), 10)


if __name__ == "__main__":
    unittest.main()
