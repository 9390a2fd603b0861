"""Leads between points and tables of networks (S5.1, S5.4, S5.5), against rises of the test's own."""

import itertools
import random
import unittest

from roundticks.elimination import lead_from, possible_numbers, table_by, table_of
from roundticks.errors import Gain
from roundticks.networks import Network, with_least, with_rules
from roundticks.tables import Table
from tests.case import Case, sample
from tests.oracle import clocks_of, gains, lead_row, period_of, rests_of, risen, some_networks


class TableCase(Case):
    def rows(self, network, names):
        """The rows of the leads between points by rising."""
        points, rules = network.points(), network.rules()
        return {(p, q): lead_row(points, rules, p, q) for p in names for q in names}

    def is_table(self, network, doors, rows, found):
        """What was found is the table with these rows; doors is a list or a tuple."""
        self.assertIs(type(found), Table)
        clocks = clocks_of(network.points())
        self.assertEqual(found.doors(), [(name, *clocks[name]) for name in doors])
        self.assertEqual(found.period(), network.period())
        for p, q in itertools.product(doors, repeat=2):
            lead = found.lead(p, q)
            if rows[p, q] is None:
                self.assertIsNone(lead)
            else:
                self.assertEqual((lead.start(), lead.end(), lead.period(), lead.row()),
                                 (clocks[p], clocks[q], network.period(), rows[p, q]))
        self.assertIs(found.is_closed(), True)

    def has_table(self, network, doors, rows):
        for some in (list, tuple):
            self.is_table(network, doors, rows, self.told(table_of, network, some(doors)))

    def has_none(self, network):
        """The network has no timetable, and each function tells this in its way."""
        names = network.names()
        for many in range(min(len(names), 3) + 1):
            self.tells(None, table_of, network, names[:many])
            self.tells(None, table_by, network, names[:many], names)
            self.tells(None, table_by, network, names[:many], names[::-1])
        for name in names:
            self.tells([], possible_numbers, network, name)
        for p, q in itertools.product(names[:3], repeat=2):
            rings = []
            for _ in range(2):
                with self.assertRaises(Gain) as caught:
                    lead_from(network, p, q)
                self.assertIs(type(caught.exception), Gain)
                rings.append(caught.exception.ring)
            self.assertEqual(rings[0], rings[1])
            self.assertTrue(gains(network.points(), network.rules(), rings[0]))
            self.assertLessEqual(len(rings[0][2]), 60 * len(names))


class Examples(TableCase):
    def test_the_table(self):
        rows = {("a", "a"): [0, 1, 2, 3, 4, 5], ("a", "c"): [6, 6, 6, 6, 9, 9], ("c", "a"): [-6, -3], ("c", "c"): [0, 3]}
        self.assertEqual(rows, self.rows(sample(), "ac"))
        self.has_table(sample(), ["a", "c"], rows)
        self.has_table(sample(), ["c", "a"], rows)

    def test_a_tight_ring(self):
        network = with_least(sample(), 2, -4)
        self.assertEqual(lead_from(network, "a", "a").row(), [2, 2, 2, 3, 5, 5])
        self.tells([2, 3, 5], possible_numbers, network, "a")
        self.tells([0, 1, 2, 3, 4, 5], possible_numbers, sample(), "a")
        self.tells([1, 3, 5], possible_numbers, sample(), "b")
        self.tells([0, 3], possible_numbers, sample(), "c")


class Doors(TableCase):
    def test_none_one_and_all_in_all_orders(self):
        for network in (sample(), with_least(sample(), 2, -4), with_rules(sample(), [("b", "b", -5), ("a", "c", 5), ("a", "c", 2)])):
            rows = self.rows(network, "abc")
            for many in range(4):
                for doors in itertools.permutations("abc", many):
                    self.has_table(network, doors, rows)

    def test_no_points(self):
        self.tells(Table([], 1, []), table_of, Network([], []), [])
        self.tells(Table([], 1, []), table_by, Network([], []), [], [])

    def test_no_doors(self):
        self.tells(Table([], 6, []), table_of, sample(), [])
        self.tells(None, table_of, with_least(sample(), 2, -2), [])

    def test_one_point(self):
        for least in (0, -1, -7, -10 ** 30):
            network = Network([("a", 5, 3)], [("a", "a", least), ("a", "a", -1)])
            self.has_table(network, ["a"], {("a", "a"): [2]})
            self.tells([2], possible_numbers, network, "a")
        for least in (1, 3, 10 ** 30):
            self.has_none(Network([("a", 5, 3)], [("a", "a", least)]))

    def test_points_between_which_there_is_no_walk(self):
        network = Network([("a", 0, 1), ("b", 0, 2), ("c", 0, 1), ("d", 0, 3)], [("a", "b", 1), ("c", "b", 1), ("c", "c", -3)])
        rows = self.rows(network, "abcd")
        self.assertEqual({pair for pair, row in rows.items() if row is None},
                         {(p, q) for p in "abcd" for q in "abcd" if p != q} - {("a", "b"), ("c", "b")})
        for many in range(5):
            for doors in itertools.combinations("abcd", many):
                self.has_table(network, doors, rows)

    def test_the_period_is_that_of_the_whole_network(self):
        network = Network([("a", 0, 2), ("h", 0, 5)], [])
        self.has_table(network, ["a"], {("a", "a"): [0, 2, 4, 6, 8]})
        self.assertEqual(table_of(network, []).period(), 10)
        self.tells([0, 2, 4, 6, 8], possible_numbers, network, "a")

    def test_the_clocks_are_those_of_the_points(self):
        network = Network([("a", -7, 2), ("b", 10 ** 30, 3)], [("a", "b", -10 ** 30)])
        lead = lead_from(network, "a", "b")
        self.assertEqual((lead.start(), lead.end()), ((-7, 2), (10 ** 30, 3)))
        self.assertEqual(lead.row(), lead_row(network.points(), network.rules(), "a", "b"))

    def test_names_like_those_of_other_doors(self):
        network = Network([("ab", 0, 1), ("a", 0, 1), ("b", 0, 1)], [("a", "b", 2), ("b", "ab", 3)])
        self.assertEqual(table_of(network, ["ab", "a"]).lead("a", "ab").row(), [5])
        self.assertEqual(table_of(network, ("a", "b")).lead("a", "b").row(), [2])


class ByChance(TableCase):
    def test_many_networks(self):
        chance = random.Random(61)
        both = [0, 0]
        for points, rules in some_networks(62, 250, steps=(1, 2, 3, 4, 6)):
            network = Network(points, rules)
            is_none = risen(points, rules, [0] * len(points)) is None
            both[is_none] += 1
            if is_none:
                self.has_none(network)
                continue
            names = network.names()
            rows = self.rows(network, names)
            doors = chance.sample(names, chance.randint(0, len(names)))
            self.has_table(network, doors, rows)
            sequence = chance.sample(names, len(names))
            self.is_table(network, doors, rows, self.told(table_by, network, doors, sequence))
            self.is_table(network, doors, rows, table_by(network, tuple(doors), tuple(sequence)))
            for name in names:
                expected = [v for v, value in zip(rests_of(clocks_of(points)[name], period_of(points)), rows[name, name])
                            if v == value]
                self.tells(expected, possible_numbers, network, name)
                self.assertNotEqual(expected, [])
            for p, q in itertools.product(names, repeat=2):
                lead = self.told(lead_from, network, p, q)
                self.assertEqual(None if lead is None else lead.row(), rows[p, q])
        self.assertGreater(min(both), 60)


class Sequences(TableCase):
    def check(self, network):
        names = network.names()
        rows = None
        if risen(network.points(), network.rules(), [0] * len(names)) is not None:
            rows = self.rows(network, names)
        for many in (0, 1, 2, len(names)):
            doors = names[-many:] if many else []
            for sequence in itertools.permutations(names):
                found = table_by(network, doors, list(sequence))
                if rows is None:
                    self.assertIsNone(found)
                else:
                    self.is_table(network, doors, rows, found)
        return rows is None

    def test_every_sequence_of_three_points(self):
        for least in range(-8, 1):
            self.assertIs(self.check(with_least(sample(), 2, least)), least > -3)

    def test_every_sequence_of_four_points(self):
        points = [("a", 0, 1), ("b", 1, 2), ("c", 0, 3), ("d", 2, 4)]
        for more in ([("a", "d", 1), ("d", "c", 0)], [("c", "d", 1), ("d", "a", -9), ("d", "d", 0)], [("d", "b", -3), ("b", "d", 1)]):
            gained = [self.check(Network(points, [("a", "b", 2), ("b", "c", 1), ("c", "a", least), *more])) for least in (-9, -6, -4, -2)]
            self.assertEqual(gained[-1], True)
            self.assertEqual(gained[0], False)

    def test_a_ring_that_only_one_sequence_meets_first(self):
        points = [("a", 0, 1), ("b", 0, 1), ("c", 0, 1), ("d", 0, 1)]
        rules = [("a", "b", 1), ("b", "c", 1), ("c", "d", 1), ("d", "a", -2)]
        self.assertIs(self.check(Network(points, rules)), True)
        self.assertIs(self.check(Network(points, rules[:3] + [("d", "a", -3)])), False)
        self.assertIs(self.check(Network(points, rules[:3] + [("d", "d", 1)])), True)


class Leads(TableCase):
    def test_a_point_to_itself(self):
        network = with_least(sample(), 2, -4)
        for name, row in [("a", [2, 2, 2, 3, 5, 5]), ("b", [1, 5, 5]), ("c", [0, 3])]:
            self.assertEqual(lead_row(network.points(), network.rules(), name, name), row)
            self.assertEqual(self.told(lead_from, network, name, name).row(), row)
        self.assertEqual(lead_from(Network([("a", 1, 2), ("b", 0, 3)], []), "a", "a").row(), [1, 3, 5])

    def test_where_there_is_none(self):
        network = Network([("a", 0, 1), ("b", 0, 1), ("c", 0, 1)], [("a", "b", 0), ("c", "b", 0)])
        for p, q in [("b", "a"), ("a", "c"), ("c", "a"), ("b", "c")]:
            self.tells(None, lead_from, network, p, q)
        for p, q in [("a", "b"), ("c", "b")]:
            self.assertEqual(self.told(lead_from, network, p, q).row(), [0])

    def test_gain_is_told_ahead_of_no_lead(self):
        self.has_none(Network([("a", 0, 1), ("b", 0, 1), ("c", 0, 1)], [("c", "c", 1)]))
        for more in (-3, -2):
            network = with_least(sample(), 2, more)
            if more == -2:
                self.has_none(network)
            else:
                self.assertEqual(lead_from(network, "a", "b").row(), lead_row(network.points(), network.rules(), "a", "b"))


class Possible(TableCase):
    def test_tight_rings(self):
        for steps in itertools.product((1, 2, 3, 4), repeat=3):
            points = [(f"p{k}", 2 * k, step) for k, step in enumerate(steps)]
            told = []
            for least in range(-9, 0):
                rules = [("p0", "p1", 2), ("p1", "p2", 1), ("p2", "p0", least)]
                network = Network(points, rules)
                for name, first, step in points:
                    row = None
                    if risen(points, rules, [0] * 3) is not None:
                        row = lead_row(points, rules, name, name)
                    numbers = rests_of((first, step), network.period())
                    expected = [] if row is None else [v for v, value in zip(numbers, row) if v == value]
                    self.assertEqual(possible_numbers(network, name), expected)
                    told.append(len(expected))
            self.assertGreater(max(told), 0)

    def test_two_points_in_step(self):
        network = Network([("a", 0, 2), ("b", 0, 3)], [("a", "b", 0), ("b", "a", 0)])
        self.tells([0], possible_numbers, network, "a")
        self.tells([0], possible_numbers, network, "b")
        network = Network([("a", 0, 2), ("b", 0, 3)], [("a", "b", 0), ("b", "a", -1)])
        self.tells([0, 2], possible_numbers, network, "a")
        self.tells([0, 3], possible_numbers, network, "b")
        self.has_none(Network([("a", 0, 2), ("b", 1, 2)], [("a", "b", 0), ("b", "a", 0)]))

    def test_firsts_far_away(self):
        network = Network([("a", 10 ** 30 + 1, 4), ("b", -10 ** 30, 6)], [("a", "b", 10 ** 30), ("b", "a", -10 ** 30 - 3)])
        rows = self.rows(network, "ab")
        for name, step in (("a", 4), ("b", 6)):
            numbers = rests_of(network.clock(name), 12)
            self.assertEqual(possible_numbers(network, name), [v for v, value in zip(numbers, rows[name, name]) if v == value])


class Returned(TableCase):
    def test_what_is_returned_may_be_changed(self):
        network = with_least(sample(), 2, -4)
        found = table_of(network, ["a", "b"])
        found.doors().clear()
        found.lead("a", "b").row().clear()
        self.assertEqual(found, table_of(network, ["a", "b"]))
        possible_numbers(network, "a").clear()
        self.tells([2, 3, 5], possible_numbers, network, "a")
        doors = ["a", "b"]
        found = table_of(network, doors)
        doors.reverse()
        self.assertEqual([door[0] for door in found.doors()], ["a", "b"])
        self.assertEqual(network, with_least(sample(), 2, -4))


if __name__ == "__main__":
    unittest.main()
