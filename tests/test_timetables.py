"""Timetables: judged, the later and the earlier one of two, and shifted."""

import itertools
import random
import unittest

from roundticks.networks import Network, with_rules
from roundticks.timetables import earlier_of, judge_timetable, later_of, shifted
from tests.case import POINTS, RULES, Case, anything, sample
from tests.oracle import is_timetable, period_of, some_networks


class Judged(Case):
    def judges(self, expected, network, numbers):
        for some in (list, tuple):
            self.tells(expected, judge_timetable, network, some(numbers))

    def test_timetables(self):
        for numbers in [(0, 5, 6), (1, 3, 6), (1, 5, 6), (0, 3, 6), (6, 9, 12), (-6, -3, 0), (3, 5, 9),
                        (6 * 10 ** 29, 6 * 10 ** 29 + 3, 6 * 10 ** 29 + 6)]:
            self.judges(None, sample(), numbers)

    def test_networks_without_points(self):
        empty = Network([], [])
        self.judges(None, empty, ())
        self.judges(("form",), empty, (0,))
        for value in anything():
            expected = None if type(value) in (list, tuple) and len(value) == 0 else ("form",)
            self.tells(expected, judge_timetable, empty, value)

    def test_the_form(self):
        for value in anything():
            if type(value) not in (list, tuple) or len(value) != 3:
                self.tells(("form",), judge_timetable, sample(), value)
        for numbers in [(), (0,), (0, 5), (0, 5, 6, 6), (0, 5, 6, 7, 8), (None, None), (1, 2)]:
            self.judges(("form",), sample(), numbers)

    def test_the_form_comes_first(self):
        for numbers in [(None, 2, 7, 0), ("a",), (0, 2), (0, 1, 0, 0)]:
            self.judges(("form",), sample(), numbers)

    def test_members_that_are_no_integers(self):
        for value in anything():
            if type(value) is not int:
                self.judges(("clock", 0), sample(), (value, 5, 6))
                self.judges(("clock", 1), sample(), (0, value, 6))
                self.judges(("clock", 2), sample(), (0, 5, value))
                self.judges(("clock", 0), sample(), (value, value, 7))
                self.judges(("clock", 1), sample(), (0, value, None))

    def test_true_and_false_are_no_numbers(self):
        network = Network([("a", 0, 1), ("b", 1, 1)], [("a", "b", 1)])
        self.judges(None, network, (0, 1))
        self.judges(("clock", 0), network, (False, 1))
        self.judges(("clock", 1), network, (0, True))
        self.judges(("clock", 0), network, (True, True))

    def test_numbers_of_other_clocks(self):
        self.judges(("clock", 1), sample(), (0, 4, 6))
        self.judges(("clock", 2), sample(), (0, 5, 7))
        self.judges(("clock", 2), sample(), (0, 5, 8))
        self.judges(("clock", 1), sample(), (0, 0, 0))
        self.judges(("clock", 1), sample(), (0, -2, -1))
        self.judges(("clock", 0), Network([("a", 5, 7)], []), (6,))
        self.judges(None, Network([("a", 5, 7)], []), (-2,))

    def test_clocks_come_ahead_of_rules(self):
        self.judges(("clock", 2), sample(), (50, 1, 1))
        self.judges(("clock", 1), sample(), (50, 2, 0))

    def test_rules(self):
        self.judges(("rule", 0), sample(), (0, 1, 6))
        self.judges(("rule", 0), sample(), (2, 3, 3))
        self.judges(("rule", 1), sample(), (0, 3, 3))
        self.judges(("rule", 2), sample(), (0, 5, 9))
        self.judges(("rule", 1), sample(), (-10, 9, 9))
        self.judges(("rule", 0), sample(), (10, 1, 99))

    def test_a_rule_that_is_just_kept(self):
        for least in (-10 ** 30, -1, 0, 1, 10 ** 30):
            network = Network([("a", 0, 1), ("b", 0, 1)], [("a", "b", least)])
            self.judges(None, network, (5, 5 + least))
            self.judges(None, network, (5, 6 + least))
            self.judges(("rule", 0), network, (5, 4 + least))

    def test_a_rule_from_a_point_to_itself(self):
        for least in (0, -1, -10 ** 30):
            self.judges(None, with_rules(sample(), [("b", "b", least)]), (0, 3, 6))
        for least in (1, 2, 10 ** 30):
            self.judges(("rule", 3), with_rules(sample(), [("b", "b", least)]), (0, 3, 6))
            self.judges(("rule", 1), with_rules(sample(), [("b", "b", least)]), (0, 3, 3))
            self.judges(("rule", 0), Network([("a", 0, 1)], [("a", "a", least)]), (0,))

    def test_the_same_rule_again(self):
        network = Network(POINTS, [("a", "b", -9), ("a", "b", 4), ("a", "b", 4)])
        self.judges(("rule", 1), network, (0, 3, 0))
        self.judges(None, network, (0, 5, 0))

    def test_all_small_tuples(self):
        for numbers in itertools.product(range(-3, 7), repeat=3):
            judged = judge_timetable(sample(), numbers)
            self.assertEqual(judged is None, is_timetable(POINTS, RULES, numbers), numbers)

    def test_by_chance(self):
        chance = random.Random(8)
        for points, rules in some_networks(21, 150):
            numbers = tuple(first + step * chance.randint(-5, 5) for _, first, step in points)
            kept = judge_timetable(Network(points, rules), numbers)
            self.assertEqual(kept is None, is_timetable(points, rules, numbers))
            if kept is not None:
                word, k = kept
                self.assertEqual(word, "rule")
                self.assertTrue(is_timetable(points, rules[:k], numbers))
                self.assertFalse(is_timetable(points, rules[:k + 1], numbers))


class LaterAndEarlier(Case):
    def test_the_example(self):
        for some in (list, tuple):
            for others in (list, tuple):
                one, other = some((0, 5, 6)), others((1, 3, 6))
                self.tells((1, 5, 6), later_of, sample(), one, other)
                self.tells((0, 3, 6), earlier_of, sample(), one, other)
                self.tells((1, 5, 6), later_of, sample(), other, one)
                self.tells((0, 3, 6), earlier_of, sample(), other, one)

    def test_networks_without_points(self):
        self.tells((), later_of, Network([], []), [], ())
        self.tells((), earlier_of, Network([], []), (), [])

    def test_one_may_be_both(self):
        self.tells((0, 3, 6), later_of, sample(), [0, 3, 6], [0, 3, 6])
        self.tells((0, 3, 6), earlier_of, sample(), (0, 3, 6), (0, 5, 6))
        self.tells((6, 9, 12), later_of, sample(), (0, 3, 6), (6, 9, 12))
        self.tells((0, 3, 6), earlier_of, sample(), (0, 3, 6), (6, 9, 12))

    def test_both_are_timetables_again(self):
        tables = [numbers for numbers in itertools.product(range(-4, 9), repeat=3)
                  if is_timetable(POINTS, RULES, numbers)]
        self.assertGreater(len(tables), 10)
        for one, other in itertools.product(tables, tables):
            later, earlier = later_of(sample(), one, other), earlier_of(sample(), one, other)
            self.assertEqual(later, tuple(max(pair) for pair in zip(one, other)))
            self.assertEqual(earlier, tuple(min(pair) for pair in zip(one, other)))
            for numbers in (later, earlier):
                self.assertTrue(is_timetable(POINTS, RULES, numbers))
                self.assertIsNone(judge_timetable(sample(), numbers))

    def test_numbers_of_40_digits(self):
        network = Network([("a", 0, 1), ("b", 0, 1)], [])
        great = 10 ** 40 - 1
        self.tells((great, great), later_of, network, (great, -great), (-great, great))
        self.tells((-great, -great), earlier_of, network, (great, -great), (-great, great))


class Shifted(Case):
    def test_the_example(self):
        for some in (list, tuple):
            for times in (0, 1, -1, 2, 17, -17, 10 ** 38, -10 ** 38):
                expected = (6 * times, 5 + 6 * times, 6 + 6 * times)
                self.tells(expected, shifted, sample(), some((0, 5, 6)), times)
                self.tells(None, judge_timetable, sample(), expected)

    def test_networks_without_points(self):
        for times in (0, 5, -5):
            self.tells((), shifted, Network([], []), (), times)
            self.tells((), shifted, Network([], []), [], times)

    def test_other_periods(self):
        for steps in [(1,), (4, 6), (60, 7), (2, 3, 5, 7)]:
            points = [(f"p{k}", k, step) for k, step in enumerate(steps)]
            numbers = tuple(range(len(steps)))
            for times in (0, 1, -3):
                expected = tuple(k + times * period_of(points) for k in numbers)
                self.tells(expected, shifted, Network(points, []), numbers, times)


if __name__ == "__main__":
    unittest.main()
