"""What networks are asked, and how they are compared."""

import unittest

from roundticks.errors import UnknownName
from roundticks.networks import Network, have_like_points
from tests.case import POINTS, RULES, Case, anything, sample


class Asked(Case):
    def test_points_and_rules(self):
        for some in (list, tuple):
            for others in (list, tuple):
                network = Network(some(POINTS), others(RULES))
                self.tells(POINTS, network.points)
                self.tells(RULES, network.rules)
                self.tells(["a", "b", "c"], network.names)

    def test_points_keep_their_order(self):
        points = [("z", 9, 9), ("a", -4, 3), ("m5", 7, 60), ("b", 10 ** 30, 1), ("a1", -10 ** 30, 2)]
        rules = [("z", "z", 0), ("a", "z", -1), ("a", "z", -1), ("b", "a1", 10 ** 30), ("a", "a", -10 ** 30)]
        network = Network(points, rules)
        self.tells(points, network.points)
        self.tells(rules, network.rules)
        self.tells(["z", "a", "m5", "b", "a1"], network.names)

    def test_networks_of_nothing(self):
        for network in (Network([], []), Network((), ()), Network([], ())):
            self.tells([], network.points)
            self.tells([], network.rules)
            self.tells([], network.names)
            self.tells(1, network.period)
            self.tells(False, network.has_name, "a")

    def test_has_name(self):
        network = sample()
        for name in ("a", "b", "c"):
            self.tells(True, network.has_name, name)
        for name in ("d", "aa", "", "A", "ab", "a b c"):
            self.tells(False, network.has_name, name)
        for value in anything():
            self.tells(value == "a", network.has_name, value)

    def test_clock_and_index(self):
        network = Network([("a", 0, 1), ("b", -7, 2), ("c", 12, 5)], [])
        self.tells((0, 1), network.clock, "a")
        self.tells((-7, 2), network.clock, "b")
        self.tells((12, 5), network.clock, "c")
        for k, name in enumerate(["a", "b", "c"]):
            self.tells(k, network.index, name)

    def test_unknown_names(self):
        network = sample()
        for value in anything() + ["d", "ab", "a "]:
            if value != "a":
                self.refused(UnknownName, {"name": value}, network.clock, value)
                self.refused(UnknownName, {"name": value}, network.index, value)

    def test_an_unknown_name_is_kept_as_it_is(self):
        value = ["a"]
        for ask in (sample().clock, sample().index):
            with self.assertRaises(UnknownName) as caught:
                ask(value)
            self.assertIs(caught.exception.name, value)

    def test_periods(self):
        self.tells(6, sample().period)
        for steps, period in [((1,), 1), ((60,), 60), ((4, 6), 12), ((6, 4), 12), ((2, 2, 2), 2), ((60, 7), 420),
                              ((5, 3, 2), 30), ((8, 9, 5, 7), 2520), ((12, 18, 10), 180)]:
            points = [(f"p{k}", k, step) for k, step in enumerate(steps)]
            self.tells(period, Network(points, []).period)

    def test_a_great_period(self):
        points = [(f"p{k}", 0, 60 - k) for k in range(40)]
        period = Network(points, []).period()
        for k in range(40):
            self.assertEqual(period % (60 - k), 0)
        prime_powers = [32, 27, 25, 49, 11, 13, 17, 19, 23, 29, 31, 37, 41, 43, 47, 53, 59]
        product = 1
        for power in prime_powers:
            product *= power
        self.tells(product, Network([(f"p{k}", 0, k) for k in range(1, 61)], []).period)
        self.tells(product, Network([(f"p{k}", 0, k) for k in prime_powers], []).period)


class Apart(Case):
    """What is passed and what is returned belongs to the caller."""

    def test_what_is_passed_may_be_changed(self):
        points, rules = list(POINTS), list(RULES)
        network = Network(points, rules)
        points.append(("d", 0, 1))
        points[0] = ("x", 5, 5)
        rules.clear()
        self.assertEqual(network.points(), POINTS)
        self.assertEqual(network.rules(), RULES)
        self.assertEqual(network.names(), ["a", "b", "c"])
        self.assertEqual(network.index("a"), 0)
        self.assertTrue(network.has_name("a"))
        self.assertFalse(network.has_name("d"))
        self.assertEqual(network.period(), 6)
        self.assertEqual(network, sample())

    def test_what_is_returned_may_be_changed(self):
        network = sample()
        for ask in (network.points, network.rules, network.names):
            told = ask()
            kept = list(told)
            told.clear()
            self.assertEqual(ask(), kept)
            ask().append(("d", 0, 1))
            ask()[0] = None
            self.assertEqual(ask(), kept)
            self.assertIsNot(ask(), ask())
        self.assertEqual(network, sample())
        self.assertEqual(network.period(), 6)
        self.assertEqual(network.clock("b"), (1, 2))


class Compared(Case):
    def check(self, equal, one, other):
        self.assertIs(one == other, equal)
        self.assertIs(other == one, equal)
        self.assertIs(one != other, not equal)
        self.assertIs(other != one, not equal)

    def test_equal_networks(self):
        self.check(True, sample(), sample())
        self.check(True, sample(), Network(tuple(POINTS), tuple(RULES)))
        self.check(True, Network([], []), Network((), ()))
        network = sample()
        self.check(True, network, network)

    def test_one_part_is_another_one(self):
        others = [(POINTS, RULES[:2]), (POINTS, RULES + [("a", "b", 2)]), (POINTS, [RULES[1], RULES[0], RULES[2]]),
                  (POINTS, []), (POINTS + [("d", 0, 1)], RULES), ([POINTS[1], POINTS[0], POINTS[2]], RULES)]
        for k in range(3):
            name, first, step = POINTS[k]
            for point in ((name, first + 1, step), (name, first, step + 1), (name, first - step, step)):
                others.append((POINTS[:k] + [point] + POINTS[k + 1:], RULES))
            start, end, least = RULES[k]
            for rule in ((start, end, least + 1), (start, end, -least), (end, start, least), (start, start, least)):
                others.append((POINTS, RULES[:k] + [rule] + RULES[k + 1:]))
        for points, rules in others:
            self.check(False, sample(), Network(points, rules))

    def test_one_name_is_another_one(self):
        self.check(False, Network([("a", 0, 1)], []), Network([("b", 0, 1)], []))
        self.check(False, Network([("a", 0, 1), ("b", 0, 1)], []), Network([("b", 0, 1), ("a", 0, 1)], []))

    def test_like_points_are_not_equal_points(self):
        self.check(False, Network([("a", 0, 3)], []), Network([("a", 3, 3)], []))

    def test_values_of_other_kinds(self):
        for network in (Network([("a", 0, 1)], [("a", "a", 0)]), Network([], [])):
            for value in anything() + [(network.points(), network.rules()), [network], (network,)]:
                if type(value) is not Network:
                    self.check(False, network, value)


class LikePoints(Case):
    def check(self, like, points, others):
        one, other = Network(points, []), Network(others, [])
        self.tells(like, have_like_points, one, other)
        self.tells(like, have_like_points, other, one)

    def test_the_same_points(self):
        self.check(True, POINTS, POINTS)
        self.check(True, [], [])
        self.tells(True, have_like_points, sample(), Network(POINTS, []))

    def test_the_same_numbers_by_other_firsts(self):
        self.check(True, [("a", 5, 7)], [("a", 12, 7)])
        self.check(True, [("a", 5, 7)], [("a", -2, 7)])
        self.check(True, [("a", 5, 7)], [("a", 5 - 7 * 10 ** 29, 7)])
        self.check(True, [("a", 0, 1), ("b", 4, 60)], [("a", 99, 1), ("b", -56, 60)])

    def test_other_numbers(self):
        self.check(False, [("a", 5, 7)], [("a", 6, 7)])
        self.check(False, [("a", 5, 7)], [("a", -5, 7)])
        self.check(False, [("a", 0, 2)], [("a", 0, 1)])
        self.check(False, [("a", 0, 2)], [("a", 0, 4)])
        self.check(False, [("a", 0, 1), ("b", 4, 60)], [("a", 99, 1), ("b", 56, 60)])
        self.check(False, [("a", 0, 2), ("b", 4, 60)], [("a", 1, 2), ("b", 4, 60)])

    def test_other_names(self):
        self.check(False, [("a", 0, 1)], [("b", 0, 1)])
        self.check(False, [("a", 0, 1), ("b", 0, 1)], [("b", 0, 1), ("a", 0, 1)])
        self.check(False, [("a", 0, 1), ("b", 0, 1)], [("a", 0, 1)])
        self.check(False, [("a", 0, 1)], [])


if __name__ == "__main__":
    unittest.main()
