"""Which numbers can be completed to timetables, and why others can not (S5.2, S5.7)."""

import itertools
import random
import unittest

from roundticks.completing import can_complete, completed, door_numbers_fit, pinned, why_not
from roundticks.elimination import table_of
from roundticks.leads import Lead
from roundticks.networks import Network, with_least, with_rules
from roundticks.rising import has_timetable
from roundticks.tables import Table
from tests.case import POINTS, RULES, Case, sample, stay
from tests.oracle import clocks_of, gains, is_timetable, lead_row, risen, some_networks, value_at

FAR = 10 ** 39


def some_timetable(points, rules, told, low, high):
    """Any timetable with the numbers that are told by name and others from low to high, or None."""
    places = {point[0]: k for k, point in enumerate(points)}

    def fits(numbers):
        many = len(numbers)
        return all(numbers[places[end]] >= numbers[places[start]] + least for start, end, least in rules
                   if max(places[start], places[end]) == many - 1)

    def longer(numbers):
        if len(numbers) == len(points):
            return numbers
        name, first, step = points[len(numbers)]
        values = [told[name]] if name in told else range(low, high + 1)
        for value in values:
            if (value - first) % step == 0 and fits(numbers + (value,)):
                found = longer(numbers + (value,))
                if found is not None:
                    return found
        return None

    return longer(())


def first_reason(points, rules, names, numbers):
    """Why numbers cannot be completed, but for the ring, by leads of the test's own; None if they can."""
    clocks = clocks_of(points)
    if risen(points, rules, [0] * len(points)) is None:
        return "ring"
    for k, name in enumerate(names):
        if (numbers[k] - clocks[name][0]) % clocks[name][1] != 0:
            return ("clock", k)
    for j, k in itertools.product(range(len(names)), repeat=2):
        row = lead_row(points, rules, names[j], names[k])
        period = Network(points, []).period()
        if row is not None and value_at(clocks[names[j]], period, row, numbers[j]) > numbers[k]:
            return ("leads", j, k)
    return None


class Completing(Case):
    def check(self, network, names, numbers):
        """All four tell the same; returns whether the numbers can be completed."""
        points, rules = network.points(), network.rules()
        expected = first_reason(points, rules, names, numbers)
        for some in (list, tuple):
            self.tells(expected is None, can_complete, network, some(names), some(numbers))
            found = self.told(completed, network, some(names), some(numbers))
            reason = self.told(why_not, network, some(names), some(numbers))
            if expected is None:
                self.assertTrue(is_timetable(points, rules, found), found)
                self.assertEqual([found[network.index(name)] for name in names], list(numbers))
            else:
                self.assertIsNone(found)
            if expected == "ring":
                self.assertIs(type(reason), tuple)
                self.assertEqual((len(reason), reason[0]), (2, "ring"))
                self.assertTrue(gains(points, rules, reason[1]))
                self.assertLessEqual(len(reason[1][2]), 60 * len(points))
            else:
                self.assertEqual(reason, expected)
        if not isinstance(expected, tuple) or expected[0] != "clock":
            self.assertIs(has_timetable(pinned(network, names, numbers)), expected is None)
        return expected is None


class Examples(Completing):
    def test_doors_a_and_c(self):
        self.assertIs(self.check(sample(), ["a", "c"], [4, 9]), True)
        self.assertIs(self.check(sample(), ["a", "c"], [4, 6]), False)
        self.assertIs(self.check(sample(), ["a", "c"], [2, 9]), False)
        self.tells(("leads", 0, 1), why_not, sample(), ["a", "c"], [4, 6])
        self.tells(("leads", 1, 0), why_not, sample(), ["c", "a"], [6, 4])
        self.tells(("leads", 1, 0), why_not, sample(), ["a", "c"], [2, 9])
        self.tells(("leads", 0, 1), why_not, sample(), ["c", "a"], [9, 2])

    def test_a_tight_ring(self):
        network = with_least(sample(), 2, -4)
        for v in range(-12, 12):
            self.assertIs(self.check(network, ["a"], [v]), v % 6 in (2, 3, 5))
        self.tells(("leads", 0, 0), why_not, network, ["a"], [0])


class Boxes(Completing):
    def test_all_numbers_of_a_box(self):
        networks = [Network(points, rules) for points, rules in some_networks(81, 40, steps=(1, 2, 3), most=3)]
        both = [0, 0]
        for network in networks + [sample(), with_least(sample(), 2, -4)]:
            points, rules = network.points(), network.rules()
            names = network.names()
            is_none = some_timetable(points, rules, {}, -30, 30) is None
            for many in range(len(names) + 1):
                for chosen in itertools.combinations(names, many):
                    for numbers in itertools.product(range(-3, 4), repeat=many):
                        told = dict(zip(chosen, numbers))
                        expected = not is_none and some_timetable(points, rules, told, -60, 60) is not None
                        both[expected] += 1
                        self.assertIs(can_complete(network, chosen, numbers), expected, (points, rules, told))
                        found = completed(network, chosen, numbers)
                        self.assertIs(found is not None, expected)
                        if found is not None:
                            self.assertTrue(is_timetable(points, rules, found))
                            self.assertEqual({**dict(zip(names, found)), **told}, dict(zip(names, found)))
        self.assertGreater(min(both), 500)

    def test_reasons_by_chance(self):
        chance = random.Random(82)
        told = {True: 0, "ring": 0, "clock": 0, "leads": 0}
        for points, rules in some_networks(83, 250, steps=(1, 2, 3, 4)):
            network = Network(points, rules)
            names = chance.sample(network.names(), chance.randint(0, len(points)))
            for spread in (3, 12, 40):
                numbers = [chance.randint(-spread, spread) for _ in names]
                if chance.random() < 0.8:
                    clocks = clocks_of(points)
                    numbers = [x + (clocks[name][0] - x) % clocks[name][1] for name, x in zip(names, numbers)]
                if self.check(network, names, numbers):
                    told[True] += 1
                else:
                    told[why_not(network, names, numbers)[0]] += 1
        self.assertGreater(min(told.values()), 20, told)


class Names(Completing):
    def test_no_names(self):
        self.assertIs(self.check(sample(), [], []), True)
        self.assertIs(self.check(with_least(sample(), 2, -2), [], []), False)
        self.assertIs(self.check(Network([], []), [], []), True)
        self.tells((), completed, Network([], []), [], [])
        self.tells(None, why_not, Network([], []), (), ())

    def test_all_names_in_all_orders(self):
        for numbers in [(0, 5, 6), (1, 3, 6), (1, 5, 6), (0, 3, 6), (0, 3, 9), (0, 1, 6), (1, 3, 3), (0, 4, 6)]:
            for order in itertools.permutations(range(3)):
                names = ["abc"[k] for k in order]
                expected = is_timetable(POINTS, RULES, numbers)
                self.assertIs(self.check(sample(), names, [numbers[k] for k in order]), expected)

    def test_points_that_nothing_comes_to(self):
        network = Network([("a", 0, 1), ("b", 0, 2), ("c", 0, 1), ("d", 1, 3)], [("a", "b", 5), ("c", "b", 1), ("c", "d", -50)])
        for names, numbers in [(["b"], [-100]), (["b"], [100]), (["a", "b"], [0, 6]), (["d"], [-3 * 10 ** 30 + 1]),
                               (["b", "d"], [10 ** 30, -3 * 10 ** 30 + 1]), (["d", "b"], [3 * 10 ** 30 + 1, -10 ** 30])]:
            self.assertIs(self.check(network, names, numbers), True)
        self.assertIs(self.check(network, ["a", "b"], [0, 4]), False)

    def test_numbers_far_apart_and_far_below(self):
        network = Network([("a", 0, 1), ("b", 1, 2), ("c", 0, 3), ("d", 0, 1)], [("a", "b", 2), ("b", "c", 1), ("d", "d", 0)])
        for a, b in [(-FAR, FAR + 1), (-FAR, -FAR + 3), (FAR, FAR + 3), (-FAR, -FAR + 2 * 10 ** 38 + 1)]:
            self.assertIs(self.check(network, ["a", "b"], [a, b]), True)
            self.assertIs(self.check(network, ["d", "b", "a"], [-a, b, a]), True)
        for a, b in [(FAR, -FAR + 1), (FAR, FAR + 1), (-FAR, -FAR + 1)]:
            self.assertIs(self.check(network, ["a", "b"], [a, b]), False)
        self.assertIs(self.check(sample(), ["a"], [-FAR]), True)
        self.assertIs(self.check(sample(), ["b"], [-FAR + 1]), True)
        self.assertIs(self.check(sample(), ["c", "a"], [-FAR + 1, 5]), False)
        self.assertIs(self.check(sample(), ["c", "b"], [3 * 10 ** 38, -FAR + 1]), False)


class Reasons(Completing):
    def test_numbers_off_their_clocks(self):
        self.tells(("clock", 0), why_not, sample(), ["b"], [0])
        self.tells(("clock", 1), why_not, sample(), ["a", "c"], [0, 5])
        self.tells(("clock", 0), why_not, sample(), ["c", "b"], [5, 2])
        self.tells(("clock", 1), why_not, sample(), ["c", "b"], [9, 2])
        self.tells(("clock", 2), why_not, sample(), ["a", "c", "b"], [0, 0, -2])
        for numbers in ([0, 5], [9, 10 ** 30], [-1, -1]):
            self.assertIs(self.check(sample(), ["a", "c"], numbers), False)

    def test_the_ring_is_told_first(self):
        network = with_least(sample(), 2, -2)
        for names, numbers in [([], []), (["b"], [0]), (["a", "b", "c"], [0, 0, 1]), (["a", "c"], [0, 0])]:
            self.assertIs(self.check(network, names, numbers), False)
            self.assertEqual(why_not(network, names, numbers)[0], "ring")
        self.assertIs(self.check(Network([("a", 0, 1), ("b", 0, 1)], [("b", "b", 1)]), ["a"], [0]), False)

    def test_the_clock_is_told_ahead_of_the_leads(self):
        self.tells(("clock", 2), why_not, sample(), ["a", "c", "b"], [0, 0, 2])
        self.tells(("leads", 0, 1), why_not, sample(), ["a", "c", "b"], [0, 0, 3])

    def test_the_first_places(self):
        network = Network([("a", 0, 1), ("b", 0, 1), ("c", 0, 1), ("d", 0, 1)],
                          [("a", "b", 1), ("a", "c", 1), ("b", "c", 1), ("d", "a", 1), ("c", "c", 0)])
        for names in itertools.permutations("abcd"):
            for numbers in itertools.product((0, 1, 2), repeat=4):
                self.check_reason(network, names, numbers)

    def check_reason(self, network, names, numbers):
        self.assertEqual(why_not(network, list(names), list(numbers)),
                         first_reason(network.points(), network.rules(), names, numbers))

    def test_a_point_with_itself(self):
        network = Network([("a", 0, 2), ("b", 0, 3)], [("a", "b", 0), ("b", "a", 0)])
        self.tells(("leads", 0, 0), why_not, network, ["a"], [2])
        self.tells(("leads", 0, 0), why_not, network, ["a", "b"], [2, 6])
        self.tells(("leads", 0, 1), why_not, network, ["b", "a"], [6, 2])
        self.tells(("leads", 1, 0), why_not, network, ["b", "a"], [0, 2])
        self.tells(("leads", 0, 0), why_not, network, ["b", "a"], [3, 2])
        self.tells(None, why_not, network, ["b", "a"], [6, 6])
        apart = Network(network.points() + [("c", 0, 1)], network.rules())
        self.tells(("leads", 1, 1), why_not, apart, ["c", "a"], [0, 2])
        self.tells(("leads", 0, 1), why_not, with_rules(apart, [("c", "a", 1)]), ["c", "a"], [0, 0])
        for names in (["a", "b"], ["b", "a"]):
            for numbers in itertools.product(range(-6, 7), repeat=2):
                self.check_reason(network, names, numbers)


class Pinned(Case):
    def test_points_and_rules(self):
        found = self.told(pinned, sample(), ["c", "a"], [9, 4])
        self.assertEqual(found.points(), POINTS + [("z0", 0, 6)])
        self.assertEqual(found.rules(), RULES + [("z0", "c", 9), ("c", "z0", -9), ("z0", "a", 4), ("a", "z0", -4)])
        self.assertEqual(pinned(sample(), ("c", "a"), (9, 4)), found)

    def test_no_names(self):
        self.tells(Network(POINTS + [("z0", 0, 6)], RULES), pinned, sample(), [], [])
        self.tells(Network([("z0", 0, 1)], []), pinned, Network([], []), [], [])

    def test_names_that_are_taken(self):
        for names, z in [(["z0"], "z1"), (["z1"], "z0"), (["z0", "z1"], "z2"), (["z1", "z0", "z2", "z4"], "z3"), (["z", "z00"], "z0"),
                         ([f"z{k}" for k in range(12)], "z12"), ([f"z{k}" for k in range(1, 12)], "z0")]:
            points = [(name, 0, 2) for name in names]
            found = self.told(pinned, Network(points, []), names[:1], [8])
            self.assertEqual(found.points(), points + [(z, 0, 2)])
            self.assertEqual(found.rules(), [(z, names[0], 8), (names[0], z, -8)])

    def test_the_period_is_the_step(self):
        points = [("a", 1, 4), ("b", 0, 15)]
        found = pinned(Network(points, []), ["b"], [-15])
        self.assertEqual(found.points()[2], ("z0", 0, 60))
        self.assertEqual(found.rules(), [("z0", "b", -15), ("b", "z0", 15)])

    def test_leads_have_papers(self):
        """The lead has at most x exactly if the network with these two rules of z alone has a timetable."""
        network = with_least(sample(), 2, -4)
        for p, q in itertools.product("abc", repeat=2):
            clock = network.clock(p)
            row = lead_row(network.points(), network.rules(), p, q)
            for v in range(-6, 6):
                if (v - clock[0]) % clock[1] != 0:
                    continue
                value = value_at(clock, 6, row, v)
                for x in range(value - 7, value + 8):
                    points = network.points() + [("z0", 0, 6)]
                    tied = Network(points, network.rules() + [("z0", p, v), (q, "z0", -x)])
                    self.assertIs(has_timetable(tied), value <= x)


class DoorNumbers(Case):
    def test_tables_of_networks(self):
        chance = random.Random(84)
        both = [0, 0]
        for points, rules in some_networks(85, 120, steps=(1, 2, 3, 4)):
            network = Network(points, rules)
            doors = chance.sample(network.names(), chance.randint(0, min(len(points), 4)))
            table = table_of(network, doors)
            if table is None:
                continue
            for _ in range(12):
                numbers = [chance.randint(-9, 9) for _ in doors]
                if chance.random() < 0.7:
                    numbers = [x + (network.clock(name)[0] - x) % network.clock(name)[1] for name, x in zip(doors, numbers)]
                expected = first_reason(points, rules, doors, numbers) is None
                both[expected] += 1
                self.tells(expected, door_numbers_fit, table, numbers)
                self.tells(expected, door_numbers_fit, table, tuple(numbers))
                self.assertIs(can_complete(network, doors, numbers), expected)
        self.assertGreater(min(both), 100)

    def test_the_example(self):
        table = table_of(sample(), ["a", "c"])
        self.tells(True, door_numbers_fit, table, [4, 9])
        self.tells(False, door_numbers_fit, table, [4, 6])
        self.tells(False, door_numbers_fit, table, [2, 9])
        self.tells(True, door_numbers_fit, table_of(sample(), ["c", "a"]), [9, 4])
        self.tells(False, door_numbers_fit, table_of(sample(), ["c", "a"]), [4, 9])

    def test_numbers_off_the_clocks(self):
        table = Table([("a", 1, 2), ("b", 0, 3)], 6, [("a", "a", stay((1, 2), 6)), ("b", "b", stay((0, 3), 6))])
        for a, b in itertools.product(range(-6, 6), repeat=2):
            self.tells(a % 2 == 1 and b % 3 == 0, door_numbers_fit, table, [a, b])
        for far in (10 ** 39, -10 ** 39):
            self.tells(True, door_numbers_fit, table, [far + 1, -far + far % 3])
            self.tells(False, door_numbers_fit, table, [far, far - far % 3])

    def test_no_doors(self):
        self.tells(True, door_numbers_fit, Table([], 6, []), [])
        self.tells(True, door_numbers_fit, Table([], 1, ()), ())

    def test_a_lead_to_itself(self):
        table = Table([("a", 0, 1)], 3, [("a", "a", Lead((0, 1), (0, 1), 3, [1, 1, 3]))])
        for v in range(-6, 6):
            self.tells(v % 3 == 1, door_numbers_fit, table, [v])

    def test_leads_in_one_direction(self):
        table = Table([("a", 0, 1), ("b", 0, 1)], 1, [("a", "a", stay((0, 1))), ("b", "b", stay((0, 1))), ("b", "a", Lead((0, 1), (0, 1), 1, [5]))])
        for a, b in itertools.product(range(-8, 8), repeat=2):
            self.tells(b + 5 <= a, door_numbers_fit, table, [a, b])


if __name__ == "__main__":
    unittest.main()
