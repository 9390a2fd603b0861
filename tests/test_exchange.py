"""Networks that can be exchanged, and papers that tell others apart (S8.1, S8.2, S8.7), against a judge of the test's own."""

import itertools
import random
import unittest

from roundticks.errors import Unlike
from roundticks.exchange import can_exchange, judge_surrounding, surrounding
from roundticks.networks import Network, with_least, with_points, with_rules
from tests.case import POINTS, Case, anything, nested, sample
from tests.oracle import clocks_of, lead_row, period_of, rests_of, risen, some_networks, value_at

OTHER = Network(POINTS, [("a", "c", 3), ("c", "a", -6)])
# A network of the points of N without a timetable.
NONE = with_least(sample(), 2, -2)


def has_one(points, rules):
    return risen(points, rules, [0] * len(points)) is not None


def goes(network, v, step, p, q, c):
    """Whether the surrounding of a point goes with a network."""
    points, rules = network.points(), network.rules()
    w = next(name for name in ("w", "w1", "w2") if name not in network.names())
    return has_one(points + [(w, v, step)], rules + [(w, p, 0), (q, w, -c)])


def is_paper(one, other, doors, value):
    """Whether this is a surrounding paper, of plain tuples."""
    if type(value) is not tuple or len(value) not in (2, 7) or type(value[1]) is not int or value[1] not in (0, 1):
        return False
    both = [one, other]
    if len(value) == 2:
        found = [has_one(network.points(), network.rules()) for network in both]
        return value[0] == "bare" and found[value[1]] and not found[1 - value[1]]
    word, k, v, step, p, q, c = value
    if word != "point" or [type(number) for number in (v, step, c)] != [int] * 3 or not 1 <= step <= 60:
        return False
    if p not in doors or q not in doors:
        return False
    return goes(both[k], v, step, p, q, c) and not goes(both[1 - k], v, step, p, q, c)


def are_alike(one, other, doors):
    """Whether neither network has a timetable, or both have and all leads between doors have the same values."""
    both = [(network.points(), network.rules()) for network in (one, other)]
    found = [has_one(*told) for told in both]
    if not all(found):
        return not any(found)
    period = period_of(one.points() + other.points())
    for p, q in itertools.product(doors, repeat=2):
        rows = [lead_row(*told, p, q) for told in both]
        if None in rows:
            if rows != [None, None]:
                return False
            continue
        for v in rests_of(clocks_of(one.points())[p], period):
            values = [value_at(clocks_of(told[0])[p], period_of(told[0]), row, v) for told, row in zip(both, rows)]
            if values[0] != values[1]:
                return False
    return True


class ExchangeCase(Case):
    def check(self, one, other, doors):
        """All three tell the same of two networks; returns whether they can be exchanged."""
        expected = are_alike(one, other, doors)
        for some in (list, tuple):
            for first, second in ((one, other), (other, one)):
                self.tells(expected, can_exchange, first, second, some(doors))
                paper = self.told(surrounding, first, second, some(doors))
                self.assertEqual(paper is None, expected)
                if paper is not None:
                    self.assertTrue(is_paper(first, second, doors, paper), paper)
                    self.tells(True, judge_surrounding, first, second, some(doors), paper)
                self.tells(False, judge_surrounding, first, second, some(doors), None)
        return expected

    def judges(self, one, other, doors, value):
        """A value is judged as the test's own judge does; returns whether it is a paper."""
        expected = is_paper(one, other, doors, value)
        self.tells(expected, judge_surrounding, one, other, doors, value)
        return expected


class Exchange(ExchangeCase):
    def test_the_example(self):
        self.assertFalse(self.check(sample(), OTHER, ["a", "c"]))
        self.assertTrue(self.judges(sample(), OTHER, ["a", "c"], ("point", 1, 0, 6, "a", "c", 3)))
        self.assertFalse(self.judges(OTHER, sample(), ["a", "c"], ("point", 1, 0, 6, "a", "c", 3)))
        self.assertTrue(self.judges(OTHER, sample(), ["a", "c"], ("point", 0, 0, 6, "a", "c", 3)))

    def test_timetables_in_both_in_one_and_in_none(self):
        for doors in ([], ["b"], ["a", "b", "c"]):
            self.assertTrue(self.check(sample(), sample(), doors))
            self.assertFalse(self.check(sample(), NONE, doors))
            self.tells(("bare", 0), surrounding, sample(), NONE, doors)
            self.tells(("bare", 1), surrounding, NONE, sample(), doors)
            self.assertTrue(self.check(NONE, NONE, doors))
            self.assertTrue(self.check(NONE, with_rules(sample(), [("a", "a", 1)]), doors))
        # Two that have none may have other leads as far as they go.
        self.assertTrue(self.check(NONE, Network([("x", 0, 1), ("a", 5, 1)], [("x", "x", 1)]), ["a"]))

    def test_doors(self):
        chain = [("a", "b", 2), ("b", "c", 1), ("c", "a", -6)]
        other = Network(POINTS, [("a", "b", 1), ("b", "c", 2), ("c", "a", -6)])
        self.assertTrue(self.check(sample(), other, []))
        told = {doors: self.check(sample(), other, list(doors)) for many in range(1, 4) for doors in itertools.permutations("abc", many)}
        self.assertEqual({"".join(sorted(doors)) for doors, alike in told.items() if alike}, {"a", "b", "c"})
        direct = Network(POINTS, chain + [("a", "c", 6)])
        for doors in (["a"], ["c", "a"], ["a", "c"], ["b", "c"], ["b", "a", "c"], ["c", "b", "a"]):
            expected = are_alike(sample(), direct, doors)
            self.assertEqual(self.check(sample(), direct, doors), expected)

    def test_points_that_are_no_doors_may_be_unlike(self):
        one = Network([("h", 0, 3), ("a", 0, 2), ("b", 1, 2)], [("a", "h", 1), ("h", "b", 1)])
        other = Network([("b", -7, 2), ("g", 9, 3), ("a", 4, 2), ("h", 0, 1)], [("a", "g", 1), ("g", "b", 1), ("a", "h", 5)])
        self.assertTrue(self.check(one, other, ["a", "b"]))
        self.assertTrue(self.check(one, other, ["b", "a"]))
        self.assertFalse(self.check(one, with_rules(other, [("a", "b", 4)]), ["a", "b"]))

    def test_unlike_periods(self):
        one = Network([("a", 0, 2), ("b", 0, 3)], [("a", "b", 1), ("b", "a", -9)])
        for more in (1, 4, 5, 10):
            other = with_points(one, [("x", 1, more)])
            self.assertTrue(self.check(one, other, ["a", "b"]))
            self.assertFalse(self.check(one, with_least(other, 0, 2), ["a", "b"]))
        # The leads differ for one number alone of the greater period.
        base = [("a", 0, 2), ("b", 0, 2)]
        plain = Network(base, [("a", "b", 0)])
        for period in (4, 6, 12, 60):
            bumped = Network(base + [("z", 0, period)], [("a", "b", 0), ("a", "z", 2 - period), ("z", "b", 2)])
            self.assertFalse(self.check(plain, bumped, ["a", "b"]))

    def test_no_lead_in_one(self):
        points = [("a", 1, 2), ("b", -4, 3), ("x", 0, 4)]
        for rule in [("a", "b", 5), ("b", "a", -8)]:
            one, other = Network(points, []), Network(points, [rule])
            self.assertFalse(self.check(one, other, ["a", "b"]))
            self.assertFalse(self.check(one, other, ["b", "a"]))
            self.assertTrue(self.check(one, other, ["b"]))
            paper = surrounding(one, other, ["a", "b"])
            self.assertEqual(paper[:2], ("point", 0))

    def test_leads_of_a_door_to_itself(self):
        one = Network([("a", 0, 1), ("z", 0, 5)], [])
        other = with_rules(one, [("a", "z", -3), ("z", "a", 1)])
        self.assertFalse(self.check(one, other, ["a"]))
        paper = surrounding(one, other, ["a"])
        self.assertEqual(paper[4:6], ("a", "a"))
        self.assertTrue(self.check(one, other, []))

    def test_clocks_told_by_other_firsts(self):
        other = Network([("c", 300, 3), ("b", -1, 2), ("a", -10 ** 30, 1)], sample().rules())
        for doors in (["a", "c"], ["b"], ["c", "b", "a"]):
            self.assertTrue(self.check(sample(), other, doors))
            self.assertFalse(self.check(sample(), with_least(other, 1, 4), doors) and len(doors) > 1)

    def test_networks_by_chance(self):
        chance = random.Random(261)
        counted = [0, 0]
        told = [(points, rules) for points, rules in some_networks(262, 300, steps=(1, 2, 3, 6), most=4) if rules]
        for points, rules in told:
            one = Network(points, rules)
            changed = list(rules)
            k = chance.randrange(len(changed))
            changed[k] = (*changed[k][:2], changed[k][2] + chance.choice([-1, 1, 0]))
            more = points + [("more", 1, chance.choice([1, 4, 5]))] if chance.random() < 0.5 else points
            other = Network(more, changed if chance.random() < 0.8 else changed[:k] + changed[k + 1:])
            doors = chance.sample([point[0] for point in points], chance.randint(0, len(points)))
            counted[self.check(one, other, doors)] += 1
        self.assertGreater(min(counted), 20)

    def test_surroundings_by_chance(self):
        # Two that can be exchanged go with the same surroundings.
        chance = random.Random(263)
        one = sample()
        other = Network([("x", 0, 2)] + POINTS, sample().rules() + [("a", "b", 1), ("a", "x", 1), ("a", "c", 3)])
        self.assertTrue(self.check(one, other, ["a", "b", "c"]))
        both = [0, 0]
        for _ in range(100):
            names = ["a", "b", "c", "w", "y"]
            rules = [(chance.choice(names), chance.choice(names), chance.randint(-6, 3)) for _ in range(3)]
            more = [("w", chance.randint(0, 3), 4), ("y", 0, 1)]
            found = [has_one(network.points() + more, network.rules() + rules) for network in (one, other)]
            self.assertEqual(found[0], found[1])
            both[found[0]] += 1
        self.assertGreater(min(both), 20)


class Refused(ExchangeCase):
    def unlike(self, one, other, doors):
        for first, second in ((one, other), (other, one)):
            self.refused(Unlike, {}, can_exchange, first, second, doors)
            self.refused(Unlike, {}, surrounding, first, second, doors)
            for value in (None, ("bare", 0), ("point", 1, 0, 6, "a", "c", 3)):
                self.refused(Unlike, {}, judge_surrounding, first, second, doors, value)

    def test_names_that_are_missing(self):
        small = Network([("a", 0, 1), ("c", 0, 3)], [])
        for doors in (["b"], ["a", "b"], ["a", "c", "b"], ["d"], ["a", "d"], ("c", "d", "a")):
            self.unlike(sample(), small, doors)
        self.unlike(Network([], []), Network([], []), ["a"])

    def test_clocks_that_are_not_alike(self):
        for clock in [(0, 1), (0, 2), (3, 4), (1, 4), (1, 3)]:
            other = Network([("a", 0, 1), ("b", *clock), ("c", 0, 3)], sample().rules())
            for doors in (["b"], ["a", "b"], ["b", "c"], ["c", "a", "b"]):
                self.unlike(sample(), other, doors)
            self.check(sample(), other, ["a"])

    def test_ahead_of_all_else(self):
        other = Network([("a", 0, 2), ("c", 0, 3)], [("c", "c", 1)])
        for one in (NONE, sample()):
            self.unlike(one, other, ["c", "a"])
            self.unlike(one, other, ["c", "b"])
        self.unlike(NONE, NONE, ["x"])


class Judged(ExchangeCase):
    def test_bare_papers(self):
        doors = ["a", "c"]
        for one, other in itertools.product([sample(), NONE, OTHER], repeat=2):
            for value in [("bare", 0), ("bare", 1)]:
                self.judges(one, other, doors, value)
        self.assertTrue(self.judges(sample(), NONE, doors, ("bare", 0)))
        self.assertTrue(self.judges(NONE, sample(), [], ("bare", 1)))
        self.assertFalse(self.judges(NONE, sample(), doors, ("bare", 0)))
        self.assertFalse(self.judges(sample(), OTHER, doors, ("bare", 0)))
        self.assertFalse(self.judges(NONE, NONE, doors, ("bare", 0)))
        for value in [("bare", 2), ("bare", -1), ("bare", False), ("bare", None), ("bare", "0"), ("bare",), ("bare", 0, 0), ["bare", 0], "bare", ("Bare", 0),
                      ("point", 0), ("bare", [0]), ("bare", (0,)), (0, "bare"), ("bare", 0, 0, 6, "a", "c", 3), (["bare"], 0), ({}, 0), (None, 0)]:
            self.assertFalse(self.judges(sample(), NONE, doors, value), value)
        self.assertFalse(self.judges(NONE, sample(), doors, ("bare", True)))

    def test_each_part_otherwise(self):
        doors = ["a", "c"]
        right = ("point", 1, 0, 6, "a", "c", 3)
        self.assertTrue(self.judges(sample(), OTHER, doors, right))
        wrong = [
            ["bare", "Point", "", None, 0, ("point",), ["point"]],
            [0, 2, -1, True, None, "1", [1], (1,), 10 ** 30],
            [True, False, None, "0", [0], (0,), {}],
            [0, 61, -6, True, None, "6", [6], 10 ** 30],
            ["b", "d", "", None, 0, ["a"], ("a",), {}],
            ["b", "d", "", None, 0, ["c"], ("c",), {}],
            [True, None, "3", [3], (3,), {}],
        ]
        for k, values in enumerate(wrong):
            for value in values:
                self.assertFalse(self.judges(sample(), OTHER, doors, right[:k] + (value,) + right[k + 1:]), (k, value))
        for told in (right[:-1], right + (0,), right + (None,), right[1:], list(right), ("point", list(right[1:])), (right,), [right], right * 2):
            self.assertFalse(self.judges(sample(), OTHER, doors, told))
        # True in the place of 1 as each number that is 1.
        one = ("point", 1, 1, 1, "a", "c", 1)
        both = (Network([("a", 0, 1), ("c", 0, 1)], [("a", "c", 2)]), Network([("a", 0, 1), ("c", 0, 1)], [("a", "c", 1)]))
        self.assertTrue(self.judges(*both, doors, one))
        for k in (1, 2, 3, 6):
            self.assertFalse(self.judges(*both, doors, one[:k] + (True,) + one[k + 1:]))
        # b is a point of both, but no door.
        self.assertTrue(self.judges(sample(), OTHER, ["a", "b"], ("point", 1, 0, 6, "a", "b", 0)))
        self.assertFalse(self.judges(sample(), OTHER, ["a", "c"], ("point", 1, 0, 6, "a", "b", 0)))

    def test_all_numbers_near(self):
        counted = [0, 0]
        for k, v, step, c in itertools.product((0, 1), range(-1, 7), (1, 2, 3, 4, 5, 6, 7, 12), range(0, 8)):
            counted[self.judges(sample(), OTHER, ["a", "c"], ("point", k, v, step, "a", "c", c))] += 1
        self.assertGreater(min(counted), 15)
        for p, q, c in itertools.product("ac", "ac", range(-9, 9)):
            for k, v in ((0, 0), (1, 0), (0, 3), (1, 4)):
                counted[self.judges(sample(), with_least(sample(), 2, -4), ["a", "c"], ("point", k, v, 6, p, q, c))] += 1

    def test_steps_that_are_no_multiple_of_a_period(self):
        points = [("a", 0, 4), ("b", 2, 4), ("z", 1, 5)]
        one = Network(points, [("a", "b", 2)])
        other = Network(points, [("a", "b", 3), ("a", "z", 0), ("z", "b", 1)])
        counted = [0, 0]
        for step in range(1, 61):
            for v, c in ((0, 2), (1, 1), (3, 4), (-5, 6)):
                counted[self.judges(one, other, ["a", "b"], ("point", 0, v, step, "a", "b", c))] += 1
        self.assertGreater(min(counted), 20)
        self.assertTrue(self.judges(one, other, ["b", "a"], ("point", 0, 0, 59, "a", "b", 60)) is False)

    def test_where_the_other_network_has_no_timetable(self):
        doors = ["a", "c"]
        for v, step, p, q, c in [(0, 6, "a", "c", 3), (0, 6, "a", "c", 6), (5, 1, "c", "c", 0), (5, 7, "a", "a", 0), (5, 60, "c", "a", -9), (0, 6, "c", "a", -6)]:
            for one, other in ((sample(), NONE), (NONE, sample()), (NONE, NONE)):
                for k in (0, 1):
                    self.judges(one, other, doors, ("point", k, v, step, p, q, c))
        self.assertTrue(self.judges(sample(), NONE, doors, ("point", 0, 0, 6, "a", "c", 6)))
        self.assertFalse(self.judges(sample(), NONE, doors, ("point", 0, 0, 6, "a", "c", 5)))
        self.assertFalse(self.judges(sample(), NONE, doors, ("point", 1, 0, 6, "a", "c", 6)))

    def test_without_leads(self):
        points = [("a", 0, 1), ("b", 0, 2)]
        one, other = Network(points, []), Network(points, [("a", "b", 1)])
        for c in (-10 ** 39, -5, 0, 1, 2, 10 ** 39):
            for k in (0, 1):
                for v in (0, 1):
                    self.judges(one, other, ["a", "b"], ("point", k, v, 2, "a", "b", c))
                    self.judges(one, other, ["a", "b"], ("point", k, v, 2, "b", "a", c))
        self.assertTrue(self.judges(one, other, ["a", "b"], ("point", 0, 0, 1, "a", "b", 0)))

    def test_names_of_the_point_between(self):
        # The point of a surrounding is none of the networks' points, also where these are called w.
        points = [("w", 0, 1), ("w1", 0, 3)]
        one, other = Network(points, [("w", "w1", 2)]), Network(points, [("w", "w1", 3)])
        self.assertFalse(self.check(one, other, ["w", "w1"]))
        self.assertFalse(self.check(one, other, ["w1", "w"]))

    def test_values_of_all_kinds(self):
        for value in [*anything(), nested(38, lambda inner: (inner, 0), "bare")]:
            for told in (value, ("bare", value), (value, 0), ("point", value, 0, 6, "a", "c", 3), ("point", 1, value, 6, "a", "c", 3), ("point", 1, 0, value, "a", "c", 3),
                         ("point", 1, 0, 6, value, "c", 3), ("point", 1, 0, 6, "a", value, 3), ("point", 1, 0, 6, "a", "c", value), (value, 1, 0, 6, "a", "c", 3)):
                if isinstance(value, (int, str)) and not isinstance(value, bool):
                    if value not in (60, 10 ** 40 - 1, 1 - 10 ** 40):
                        self.judges(sample(), OTHER, ["a", "c"], told)
                else:
                    self.tells(False, judge_surrounding, sample(), OTHER, ["a", "c"], told)


if __name__ == "__main__":
    unittest.main()
