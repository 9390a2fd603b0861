"""What floors force, the earliest and the latest timetable, and rings that gain."""

import itertools
import random
import unittest

from roundticks.errors import Gain
from roundticks.networks import Network, with_least, with_rules
from roundticks.rising import earliest, find_ring, forced, has_timetable, latest
from roundticks.timetables import judge_timetable
from roundticks.walks import judge_ring
from tests.case import POINTS, RULES, Case, sample
from tests.oracle import (down_of, fallen, gains, is_timetable, period_of, reached, risen, some_networks, up_of)


class RingCase(Case):
    def is_good_ring(self, network, ring):
        self.assertTrue(gains(network.points(), network.rules(), ring), ring)
        self.assertIs(judge_ring(network, ring), True)
        self.assertLessEqual(len(ring[2]), 60 * len(network.points()))

    def gains_in(self, function, network, numbers):
        """The function raises Gain, with the same good ring each time; returns the ring."""
        rings = []
        for some in (list, tuple, list):
            passed = some(numbers)
            with self.assertRaises(Gain) as caught:
                function(network, passed)
            self.assertIs(type(caught.exception), Gain)
            self.assertEqual(passed, some(numbers))
            rings.append(caught.exception.ring)
        self.is_good_ring(network, rings[0])
        self.assertEqual(rings[0], rings[1])
        self.assertEqual(rings[0], rings[2])
        return rings[0]

    def forces(self, expected, function, network, numbers):
        for some in (list, tuple):
            self.tells(expected, function, network, some(numbers))

    def has_ring(self, network):
        """The network has a ring that gains, and so no timetable."""
        ring = self.told(find_ring, network)
        self.is_good_ring(network, ring)
        self.tells(False, has_timetable, network)
        many = len(network.points())
        for function in (forced, earliest, latest):
            self.gains_in(function, network, [0] * many)

    def has_none(self, network):
        self.tells(None, find_ring, network)
        self.tells(True, has_timetable, network)


class Examples(RingCase):
    def test_floors(self):
        for function in (forced, earliest):
            self.forces((0, 3, 6), function, sample(), [0, 0, 0])
        self.forces((0, 3, 6), forced, sample(), [0, None, None])
        self.forces((3, 5, 9), forced, sample(), [None, None, 8])

    def test_ceilings(self):
        self.forces((5, 7, 9), latest, sample(), [10, 10, 10])

    def test_rings(self):
        self.has_none(sample())
        self.has_none(with_least(sample(), 2, -4))
        self.has_none(with_least(sample(), 2, -3))
        for least in (-2, -1, 0, 1, 10 ** 30):
            self.has_ring(with_least(sample(), 2, least))

    def test_the_floor_of_a_point_that_is_met_again(self):
        self.forces((2, 5, 6), forced, with_least(sample(), 2, -4), [0, None, None])
        self.forces((2, 5, 6), earliest, with_least(sample(), 2, -4), [0, 0, 0])


class Forced(RingCase):
    def test_no_floors(self):
        self.forces((None, None, None), forced, sample(), [None, None, None])
        self.forces((None,), forced, Network([("a", 0, 1)], [("a", "a", 5)]), [None])
        gaining = with_least(sample(), 2, -2)
        self.forces((None, None, None), forced, gaining, [None, None, None])

    def test_networks_without_points(self):
        for network in (Network([], []), Network((), ())):
            for function in (forced, earliest, latest):
                self.forces((), function, network, [])
            self.has_none(network)

    def test_networks_without_rules(self):
        network = Network([("a", 0, 1), ("b", 1, 2), ("c", 5, 7)], [])
        self.forces((4, 5, 5), forced, network, [4, 4, 4])
        self.forces((4, None, 5), forced, network, [4, None, 4])
        self.forces((None, -3, None), forced, network, [None, -4, None])
        self.forces((-9, -9, -9), earliest, network, [-9, -9, -15])
        self.forces((4, 3, -2), latest, network, [4, 4, 4])
        self.has_none(network)

    def test_points_to_which_no_walk_leads(self):
        network = Network([("a", 0, 1), ("b", 0, 2), ("c", 0, 3), ("d", 0, 4)], [("a", "b", 1), ("b", "c", 1)])
        self.forces((0, 2, 3, None), forced, network, [0, None, None, None])
        self.forces((None, 0, 3, None), forced, network, [None, 0, None, None])
        self.forces((None, None, 0, None), forced, network, [None, None, 0, None])
        self.forces((None, None, None, 0), forced, network, [None, None, None, 0])
        self.forces((1, 2, 9, -4), forced, network, [1, None, 7, -5])

    def test_floors_that_are_forced_higher_and_not(self):
        network = Network([("a", 0, 1), ("b", 0, 1)], [("a", "b", 3)])
        self.forces((0, 3), forced, network, [0, 2])
        self.forces((0, 3), forced, network, [0, 3])
        self.forces((0, 4), forced, network, [0, 4])
        self.forces((0, 3), forced, network, [0, -10 ** 30])
        self.forces((0, 10 ** 30), forced, network, [0, 10 ** 30])

    def test_the_later_one_of_two_ways(self):
        network = Network([("a", 0, 1), ("b", 0, 1), ("c", 0, 1)],
                          [("a", "c", 4), ("a", "b", 3), ("b", "c", 3), ("a", "c", 5), ("a", "c", -8)])
        self.forces((0, 3, 6), forced, network, [0, None, None])
        self.forces((1, 4, 9), forced, network, [1, -5, 9])

    def test_rules_against_their_order(self):
        many = 12
        points = [(f"p{k}", 0, 1) for k in range(many)]
        rules = [(f"p{k}", f"p{k + 1}", k) for k in range(many - 1)]
        expected = tuple(sum(range(k)) for k in range(many))
        for order in (rules, rules[::-1], rules[::2] + rules[1::2]):
            self.forces(expected, forced, Network(points, order), [0] + [None] * (many - 1))

    def test_floors_of_one_after_the_other_number(self):
        for floor in range(-20, 20):
            a = floor
            b = up_of((1, 2), a + 2)
            c = up_of((0, 3), b + 1)
            self.forces((max(a, c - 6), b, c), forced, sample(), [floor, None, None])

    def test_a_rule_to_the_point_itself(self):
        for step in (1, 2, 7, 60):
            for least in (0, -1, -10 ** 30):
                network = Network([("a", 3, step)], [("a", "a", least)])
                self.has_none(network)
                self.forces((3,), forced, network, [3])
                self.forces((3,), latest, network, [3])
            for least in (1, step, 61, 10 ** 30):
                self.has_ring(Network([("a", 3, step)], [("a", "a", least)]))
        for least in (0, -1):
            self.has_none(Network([("a", 0, 1), ("b", 0, 60)], [("a", "a", least)]))
        self.has_ring(Network([("a", 0, 1), ("b", 0, 60)], [("a", "a", 1)]))


class Gaining(RingCase):
    """A ring that gains, and floors that lead to it or do not."""

    def network(self):
        points = [("a", 0, 1), ("b", 0, 2), ("c", 0, 3), ("d", 1, 2), ("e", 0, 1)]
        return Network(points, [("b", "c", 1), ("c", "b", 0), ("a", "b", 0), ("c", "d", 0), ("d", "e", 5)])

    def test_floors_that_do_not_lead_there(self):
        self.has_ring(self.network())
        self.forces((None, None, None, 1, 6), forced, self.network(), [None, None, None, 0, None])
        self.forces((None, None, None, None, 4), forced, self.network(), [None, None, None, None, 4])
        self.forces((None, None, None, 3, 9), forced, self.network(), [None, None, None, 2, 9])

    def test_floors_that_lead_there(self):
        for place in range(3):
            floors = [None] * 5
            floors[place] = 7
            self.gains_in(forced, self.network(), floors)
            floors[4] = -10 ** 30
            self.gains_in(forced, self.network(), floors)

    def test_timetables_are_told_by_none(self):
        for numbers in ([0] * 5, [-10 ** 30] * 5, [10 ** 30, 0, 0, 0, 0]):
            self.gains_in(forced, self.network(), numbers)
            self.gains_in(earliest, self.network(), numbers)
            self.gains_in(latest, self.network(), numbers)

    def test_a_circle_of_last_causes_is_not_enough(self):
        for least in range(-9, 3):
            for first, step in itertools.product(range(4), (1, 2, 3, 4)):
                points = [("a", 0, 1), ("b", 1, 2), ("c", 0, 3), ("d", first, step)]
                network = Network(points, [("c", "a", least), ("b", "c", 1), ("a", "b", 2), ("d", "a", 0), ("b", "d", 0)])
                if risen(points, network.rules(), [0] * 4) is None:
                    self.has_ring(network)
                else:
                    self.has_none(network)

    def test_a_ring_that_gains_by_rounding_alone(self):
        points = [("a", 0, 4), ("b", 1, 4)]
        for there in range(-6, 2):
            for back in range(-4, 3):
                network = Network(points, [("a", "b", there), ("b", "a", back)])
                if there > -3 and back > -1:
                    self.has_ring(network)
                elif there <= -3 and back <= 3 or there <= 1 and back <= -1:
                    self.has_none(network)


class EarliestAndLatest(RingCase):
    def tables(self, points, rules, low, high):
        """All timetables with numbers from low to high."""
        rows = [[number for number in range(low, high + 1) if (number - first) % step == 0]
                for _, first, step in points]
        return [numbers for numbers in itertools.product(*rows) if is_timetable(points, rules, numbers)]

    def test_no_timetable_is_earlier_above_the_floors_or_later_below_the_ceilings(self):
        chance = random.Random(6)
        checked = 0
        for points, rules in some_networks(51, 150, steps=(1, 2, 3), most=3):
            network = Network(points, rules)
            if not has_timetable(network):
                self.assertEqual(self.tables(points, rules, -12, 12), [])
                continue
            tables = self.tables(points, rules, -15, 15)
            for _ in range(3):
                numbers = [chance.randint(-7, 7) for _ in points]
                least, greatest = earliest(network, numbers), latest(network, numbers)
                self.assertIsNone(judge_timetable(network, least))
                self.assertIsNone(judge_timetable(network, greatest))
                self.assertTrue(all(x >= floor for x, floor in zip(least, numbers)))
                self.assertTrue(all(x <= ceiling for x, ceiling in zip(greatest, numbers)))
                for table in tables:
                    if all(x >= floor for x, floor in zip(table, numbers)):
                        self.assertTrue(all(x >= y for x, y in zip(table, least)))
                        checked += 1
                    if all(x <= ceiling for x, ceiling in zip(table, numbers)):
                        self.assertTrue(all(x <= y for x, y in zip(table, greatest)))
                        checked += 1
        self.assertGreater(checked, 1000)

    def test_on_between_and_far_from_numbers(self):
        network = Network([("a", 4, 60), ("b", -1, 7)], [("a", "b", 10)])
        for floor in (-236, -200, -57, -56, -55, 3, 4, 5, 63, 64, 65, 10 ** 30, -10 ** 30):
            a = up_of((4, 60), floor)
            self.forces((a, up_of((-1, 7), max(a + 10, 0))), earliest, network, [floor, 0])
            self.forces((a, up_of((-1, 7), a + 10)), forced, network, [floor, None])
            b = down_of((-1, 7), floor)
            self.forces((down_of((4, 60), min(b - 10, 0)), b), latest, network, [0, floor])

    def test_floors_and_ceilings_far_from_each_other(self):
        great = 10 ** 30
        expected = risen(POINTS, RULES, [-great, 0, great])
        self.forces(expected, earliest, sample(), [-great, 0, great])
        self.forces((-great, -great + 3, -great + 4), earliest, sample(), [-great] * 3)
        expected = fallen(POINTS, RULES, [-great, 0, great])
        self.forces(expected, latest, sample(), [-great, 0, great])

    def test_below_0(self):
        self.forces((-6, -3, 0), earliest, sample(), [-6, -4, -2])
        self.forces((-7, -5, -3), latest, sample(), [-1, -5, -1])
        self.forces((-1, 1, 3), earliest, sample(), [-1, -1, -1])

    def test_a_ceiling_far_below(self):
        network = Network([("a", 0, 1), ("b", 0, 1), ("c", 0, 1)], [("a", "b", 5), ("b", "c", -2)])
        self.forces((-105, -100, 7), latest, network, [0, -100, 7])
        self.forces((-103, -98, -100), latest, network, [0, 9, -100])
        self.forces((-7, -2, -4), latest, network, [0, 9, -4])

    def test_timetables_are_moved_by_periods(self):
        chance = random.Random(9)
        for points, rules in some_networks(61, 60):
            network = Network(points, rules)
            if not has_timetable(network):
                continue
            floors = [chance.randint(-20, 20) for _ in points]
            for times in (1, -1, 10 ** 20):
                more = times * period_of(points)
                moved = [floor + more for floor in floors]
                for function in (earliest, latest):
                    expected = tuple(x + more for x in function(network, floors))
                    self.forces(expected, function, network, moved)


class EitherOr(RingCase):
    def test_by_chance(self):
        chance = random.Random(7)
        both = [0, 0]
        for points, rules in some_networks(71, 400):
            network = Network(points, rules)
            zeros = [0] * len(points)
            expected = risen(points, rules, zeros)
            both[expected is None] += 1
            if expected is None:
                self.has_ring(network)
            else:
                self.has_none(network)
                self.forces(expected, earliest, network, zeros)
                self.forces(fallen(points, rules, zeros), latest, network, zeros)
            floors = [chance.choice([None, None, 0, 5, -5, 12]) for _ in points]
            expected = risen(points, rules, floors)
            if expected is None:
                ring = self.gains_in(forced, network, floors)
                starts = [point[0] for point, floor in zip(points, floors) if floor is not None]
                self.assertIn(ring[0], reached(rules, starts))
            else:
                self.forces(expected, forced, network, floors)
        self.assertGreater(min(both), 100)

    def test_leasts_one_by_one(self):
        for steps in itertools.product((1, 2, 3, 4), repeat=3):
            points = [(f"p{k}", k, step) for k, step in enumerate(steps)]
            for least in range(-8, 2):
                rules = [("p0", "p1", 2), ("p1", "p2", 1), ("p2", "p0", least)]
                network = Network(points, rules)
                expected = risen(points, rules, [0, 0, 0])
                ring = find_ring(network)
                self.assertIs(has_timetable(network), ring is None)
                if expected is None:
                    self.is_good_ring(network, ring)
                else:
                    self.assertIsNone(ring)
                    self.assertEqual(earliest(network, [0, 0, 0]), expected)

    def test_the_network_stays_as_it_is(self):
        for network in (sample(), with_least(sample(), 2, -2), with_rules(sample(), [("a", "a", 1)])):
            points, rules = network.points(), network.rules()
            find_ring(network)
            has_timetable(network)
            for function in (forced, earliest, latest):
                try:
                    function(network, [5, 5, 5])
                except Gain:
                    pass
            self.assertEqual((network.points(), network.rules()), (points, rules))


if __name__ == "__main__":
    unittest.main()
