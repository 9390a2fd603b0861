"""Inputs at the limits: many points and rules, great numbers, deep values, rings that gain slowly."""

import random
import unittest

from roundticks.errors import BadNetwork, Gain, NoWay, UnknownName
from roundticks.networks import (Network, have_like_points, part_of, with_least, with_points, with_rules,
                                 without_point, without_rule)
from roundticks.rising import earliest, find_ring, forced, has_timetable, latest
from roundticks.timetables import earlier_of, judge_timetable, later_of, shifted
from roundticks.walks import judge_ring, led
from roundticks.words import is_integer, is_number, is_word
from tests.case import Case, nested, sample
from tests.oracle import down_of, fallen, gains, is_timetable, risen, up_of

GREAT = 10 ** 30
STEPS = (1, 2, 3, 4, 5, 6, 10, 12, 15, 20, 30, 60)


def great_network():
    points = [(f"p{k}", (-1) ** k * (GREAT - k), 1 + k % 60) for k in range(40)]
    rules = [(f"p{k % 40}", f"p{(7 * k + 3) % 40}", (-1) ** (k // 3) * (GREAT - k)) for k in range(120)]
    return Network(points, rules), points, rules


class Networks(Case):
    def test_40_points_and_120_rules(self):
        network, points, rules = great_network()
        self.tells(points, network.points)
        self.tells(rules, network.rules)
        for k, (name, first, step) in enumerate(points):
            self.assertEqual(network.clock(name), (first, step))
            self.assertEqual(network.index(name), k)
        self.assertEqual(network, Network(tuple(points), tuple(rules)))
        self.assertTrue(have_like_points(network, Network([(n, f + 5 * s, s) for n, f, s in points], [])))
        self.assertFalse(network == with_least(network, 119, 5))
        self.assertEqual(with_least(network, 119, GREAT).rules()[119], rules[119][:2] + (GREAT,))

    def test_changed(self):
        network, points, rules = great_network()
        self.assertEqual(with_points(Network(points[:20], []), points[20:]).points(), points)
        self.assertEqual(with_rules(Network(points, rules[:50]), rules[50:]), network)
        self.refused(BadNetwork, {"path": (0, 40, 0)}, with_points, network, [points[0]])
        self.refused(BadNetwork, {"path": (1, 121, 1)}, with_rules, network, [("p0", "p0", 0), ("p0", "p40", 0)])
        self.assertEqual(without_rule(network, 77).rules(), rules[:77] + rules[78:])
        kept = [rule for rule in rules if "p39" not in rule]
        self.assertEqual(without_point(network, "p39"), Network(points[:39], kept))
        self.assertEqual(part_of(network, [f"p{k % 40}" for k in range(400)]), network)
        kept = [rule for rule in rules if int(rule[0][1:]) % 2 == int(rule[1][1:]) % 2 == 0]
        self.assertEqual(part_of(network, [f"p{k}" for k in range(38, -1, -2)]), Network(points[::2], kept))

    def test_values_nested_40_deep(self):
        for wrap in (lambda value: [value], lambda value: (value,), lambda value: {"a": value},
                     lambda value: ["a", value], lambda value: ("a", 0, value)):
            value = nested(40, wrap, "a")
            for function in (is_word, is_integer, is_number, sample().has_name):
                self.tells(False, function, value)
            for function in (sample().clock, sample().index):
                self.refused(UnknownName, {"name": value}, function, value)
            self.refused(UnknownName, {"name": value}, without_point, sample(), value)
            self.refused(UnknownName, {"name": value}, part_of, sample(), ["a", value])
            is_triple = type(value) is tuple and len(value) == 3
            self.refused(BadNetwork, {"path": (0, 0, 2) if is_triple else (0, 0)}, Network, [value], value)
            self.refused(BadNetwork, {"path": (0, 0, 0)}, Network, [(value, value, value)], value)
            self.refused(BadNetwork, {"path": (1, 0, 0)}, Network, [("a", 0, 1)], [(value, value, value)])
            self.tells(("clock", 0) if is_triple else ("form",), judge_timetable, sample(), value)
            self.tells(("clock", 1), judge_timetable, sample(), [0, value, value])
            self.tells(False, judge_ring, sample(), value)
            self.tells(False, judge_ring, sample(), ("a", value, (value,)))
            self.refused(NoWay, {}, led, sample(), "a", 0, [value])
            self.assertFalse(sample() == value)
            self.assertTrue(sample() != value)


class Timetables(Case):
    def test_40_points(self):
        points = [(f"p{k}", k, 1 + k % 12) for k in range(40)]
        rules = [(f"p{k % 40}", f"p{(k + 1) % 40}", -GREAT) for k in range(120)]
        network = Network(points, rules)
        one = tuple(k + (1 + k % 12) * (-1) ** k for k in range(40))
        other = tuple(range(40))
        for numbers in (one, other):
            self.assertIsNone(judge_timetable(network, numbers))
        self.tells(tuple(max(pair) for pair in zip(one, other)), later_of, network, one, other)
        self.tells(tuple(min(pair) for pair in zip(one, other)), earlier_of, network, one, other)
        period = network.period()
        self.assertEqual(period, 27720)
        self.tells(tuple(number + period * GREAT for number in one), shifted, network, one, GREAT)
        for k in range(40):
            wrong = list(other)
            wrong[k] = 10 ** 40 - 1 if (10 ** 40 - 1 - k) % (1 + k % 12) else True
            self.tells(("clock", k), judge_timetable, network, wrong)


class Slow(Case):
    def is_good(self, network):
        """Just one of a ring that gains and a timetable is told, and it is right; returns whether it is a ring."""
        points, rules, many = network.points(), network.rules(), len(network.points())
        ring = find_ring(network)
        self.assertEqual(ring, find_ring(network))
        self.assertIs(has_timetable(network), ring is None)
        if ring is None:
            for floors in ([0] * many, [GREAT] * many, [(-1) ** k * GREAT for k in range(many)]):
                numbers = earliest(network, floors)
                self.assertTrue(is_timetable(points, rules, numbers))
                self.assertTrue(all(number >= floor for number, floor in zip(numbers, floors)))
                self.assertEqual(numbers, forced(network, floors))
                numbers = latest(network, floors)
                self.assertTrue(is_timetable(points, rules, numbers))
                self.assertTrue(all(number <= floor for number, floor in zip(numbers, floors)))
            return False
        found = [ring]
        for function in (forced, earliest, latest):
            for floors in ([0] * many, [-GREAT] * many):
                with self.assertRaises(Gain) as caught:
                    function(network, floors)
                found.append(caught.exception.ring)
        for ring in found:
            self.assertTrue(gains(points, rules, ring))
            self.assertTrue(judge_ring(network, ring))
            self.assertLessEqual(len(ring[2]), 60 * many)
        return True

    def round(self, steps, last, order):
        """A round of points with clocks of these steps, and one more point with the period 60."""
        many = len(steps)
        points = [(f"p{k}", 0, step) for k, step in enumerate(steps)] + [("z", 0, 60)]
        rules = [(f"p{k}", f"p{(k + 1) % many}", last if k == many - 1 else 0) for k in range(many)]
        return Network(points, [rules[k] for k in order])

    def test_a_ring_that_gains_one_number_in_each_lap(self):
        for many in (1, 2, 39):
            orders = [list(range(many)), list(range(many))[::-1], random.Random(1).sample(range(many), many)]
            for order in orders:
                self.assertTrue(self.is_good(self.round([1] * many, 1, order)))
                self.assertFalse(self.is_good(self.round([1] * many, 0, order)))
                self.assertFalse(self.is_good(self.round([1] * many, -1, order)))

    def test_all_40_points_in_a_ring(self):
        for last, is_ring in [(1, True), (0, False), (-GREAT, False), (GREAT, True)]:
            points = [(f"p{k}", 0, 1) for k in range(39)] + [("p39", 0, 60)]
            rules = [(f"p{k}", f"p{(k + 1) % 40}", last if k == 39 else 0) for k in range(40)]
            self.assertIs(self.is_good(Network(points, rules)), is_ring)

    def test_the_least_gain_and_what_comes_near_to_it(self):
        chance = random.Random(12)
        for _ in range(6):
            many = 40
            steps = [chance.choice(STEPS) for _ in range(many)]
            points = [(f"p{k}", chance.randint(-60, 60), step) for k, step in enumerate(steps)]
            rules = [(f"p{k}", f"p{(k + 1) % many}", chance.randint(-40, 20)) for k in range(many)]
            chance.shuffle(rules)
            rules += [(f"p{k}", f"p{k}", 0) for k in range(many)] + [("p5", "p20", -GREAT)] * 40
            low, high = -3000, 3000
            while high - low > 1:
                least = (low + high) // 2
                network = Network(points, [rules[0][:2] + (least,)] + rules[1:])
                if find_ring(network) is None:
                    low = least
                else:
                    high = least
            self.assertFalse(self.is_good(Network(points, [rules[0][:2] + (low,)] + rules[1:])))
            self.assertTrue(self.is_good(Network(points, [rules[0][:2] + (high,)] + rules[1:])))

    def test_many_rings_through_each_other(self):
        chance = random.Random(13)
        both = [0, 0]
        for trial in range(18):
            points = [(f"p{k}", chance.randint(-60, 60), chance.choice(STEPS)) for k in range(40)]
            rules = [(f"p{chance.randint(0, 39)}", f"p{chance.randint(0, 39)}", chance.randint(-60, trial % 3 * 5))
                     for _ in range(120)]
            network = Network(points, rules)
            is_ring = self.is_good(network)
            both[is_ring] += 1
            self.assertIs(risen(points, rules, [0] * 40) is None, is_ring)
        self.assertGreater(min(both), 3)

    def test_great_leasts(self):
        for more in (-GREAT, -1, 0, 1, GREAT):
            points = [("a", 0, 1), ("b", GREAT, 2), ("c", 1 - GREAT, 3)]
            rules = [("a", "b", GREAT), ("c", "b", -GREAT), ("b", "a", more - GREAT), ("a", "c", -GREAT)]
            self.assertIs(self.is_good(Network(points, rules)), more > 0)
            self.assertIs(self.is_good(Network(points[:2], [rules[2], rules[0]])), more > 0)
            self.assertIs(self.is_good(Network([("a", GREAT, 60)], [("a", "a", more)])), more > 0)


class Rows(Case):
    def test_40_points_in_a_row(self):
        chance = random.Random(14)
        points = [(f"p{k}", chance.randint(-60, 60), STEPS[k % len(STEPS)]) for k in range(40)]
        rules = [(f"p{k}", f"p{k + 1}", (-1) ** k * (GREAT - k)) for k in range(39)]
        for order in (rules, rules[::-1]):
            network = Network(points, order)
            expected = [up_of(points[0][1:], 1 - GREAT)]
            for k in range(39):
                expected.append(up_of(points[k + 1][1:], expected[k] + rules[k][2]))
            self.tells(tuple(expected), forced, network, [1 - GREAT] + [None] * 39)
            self.tells((None,) * 20 + tuple(expected[20:]), forced, network, [None] * 20 + [expected[20]] + [None] * 19)
            expected = [down_of(points[39][1:], GREAT - 1)]
            for k in reversed(range(39)):
                expected.insert(0, down_of(points[k][1:], expected[0] - rules[k][2]))
            self.tells(tuple(expected), latest, network, [10 * GREAT] * 39 + [GREAT - 1])

    def test_floors_near_the_limits(self):
        network, points, rules = great_network()
        points = [(name, first, STEPS[k % len(STEPS)]) for k, (name, first, _) in enumerate(points)]
        rules = [(start, end, least if least < 0 else -least) for start, end, least in rules]
        network = Network(points, rules)
        chance = random.Random(15)
        for _ in range(5):
            floors = [chance.choice([-GREAT, GREAT, 0, GREAT - 7, None]) for _ in points]
            self.tells(risen(points, rules, floors), forced, network, floors)
            floors = [chance.choice([-GREAT, GREAT, 0, GREAT - 7]) for _ in points]
            self.tells(risen(points, rules, floors), earliest, network, floors)
            self.tells(fallen(points, rules, floors), latest, network, floors)


if __name__ == "__main__":
    unittest.main()
