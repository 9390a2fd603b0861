"""Inputs at the limits for cause papers, leads, tables and elimination."""

import random
import unittest

from roundticks.causes import cause_paper, judge_causes
from roundticks.elimination import lead_from, possible_numbers, table_by, table_of
from roundticks.errors import BadLead, BadTable, Gain, NoWay, UnknownName
from roundticks.leading import and_then, back_of, jumps, later_lead, rule_lead, star_of, staying_lead, with_period
from roundticks.leads import Lead
from roundticks.networks import Network
from roundticks.tables import Table, are_alike_tables
from tests.case import Case, nested, sample, stay
from tests.oracle import clocks_of, gains, is_right_paper, rests_of, risen

GREAT = 10 ** 30
STEPS = (1, 2, 3, 4, 5, 6, 10, 12, 15, 20, 30, 60)
TICK = (0, 1)


def great_networks():
    """Networks of 40 points and 120 rules with the period 60, the same ones each time: points and rules."""
    chance = random.Random(71)
    for steps in (STEPS, (1, 2, 3), (60, 30, 20)):
        for far in (0, 10 ** 29):
            points = [(f"p{k}", chance.randint(-60, 60) + k % 3 * far, chance.choice(steps)) for k in range(39)] + [("z", 0, 60)]
            names = [point[0] for point in points]
            rules = [(chance.choice(names), chance.choice(names), chance.randint(-90, -30) - far) for _ in range(120)]
            yield points, rules


class Causes(Case):
    def test_40_points_and_120_rules(self):
        chance = random.Random(72)
        papers = 0
        for points, rules in great_networks():
            network = Network(points, rules)
            for many in (1, 2, 40):
                floors = [chance.randint(-GREAT, GREAT) if k < many else None for k in range(40)]
                chance.shuffle(floors)
                if risen(points, rules, floors) is None:
                    with self.assertRaises(Gain) as caught:
                        cause_paper(network, floors)
                    self.assertTrue(gains(points, rules, caught.exception.ring))
                    self.assertLessEqual(len(caught.exception.ring[2]), 2400)
                    continue
                papers += 1
                paper = self.told(cause_paper, network, floors)
                self.assertTrue(is_right_paper(points, rules, floors, paper))
                self.assertEqual(paper[0], risen(points, rules, floors))
                self.assertLessEqual(max([len(walk[1]) for walk in paper[1] if walk is not None]), 2400)
                self.tells(True, judge_causes, network, floors, paper)
        self.assertGreater(papers, 10)

    def test_long_walks(self):
        many = 40
        points = [(f"p{k}", k, STEPS[k % 12]) for k in range(many)]
        rules = [(f"p{k}", f"p{(k + 1) % many}", (-1) ** k * 10 ** 29 - 60) for k in range(many)]
        network = Network(points, [rules[-1]] + rules[:-1])
        paper = cause_paper(network, [GREAT] + [None] * 39)
        self.assertTrue(is_right_paper(points, network.rules(), [GREAT] + [None] * 39, paper))
        self.assertEqual(len(paper[1][39][1]), 39)
        # A walk that is judged may be longer than what is told.
        lap = tuple(range(1, many)) + (0,)
        numbers, walks = paper
        self.tells(True, judge_causes, network, [GREAT] + [None] * 39, (numbers, walks))
        self.tells(False, judge_causes, network, [GREAT] + [None] * 39, (numbers, (("p0", lap * 100),) + walks[1:]))
        ring = Network([("a", 0, 1), ("b", 0, 1)], [("a", "b", 0), ("b", "a", 0)])
        self.tells(True, judge_causes, ring, [0, None], ((0, 0), (("a", (0, 1) * 2000), ("a", (0, 1) * 1999 + (0,)))))
        self.tells(False, judge_causes, ring, [0, None], ((0, 0), (("a", (0, 1) * 2000), ("a", (0, 1) * 2000))))

    def test_values_nested_40_deep(self):
        for wrap in (lambda value: [value], lambda value: (value,), lambda value: {"a": value}, lambda value: ("a", value)):
            value = nested(40, wrap, 0)
            for paper in (value, (value, value), ((0, 3, 6), value), ((0, 3, 6), (value, value, value)),
                          ((value, value, value), (("a", ()), ("a", (0,)), ("a", (0, 1)))),
                          ((0, 3, 6), (("a", ()), ("a", (value,)), (value, (0, 1))))):
                self.tells(False, judge_causes, sample(), [0, None, None], paper)


class Leads(Case):
    def test_periods_to_3600(self):
        chance = random.Random(73)
        for start, end in [((0, 1), (0, 1)), ((-GREAT, 60), (7, 1)), ((5, 1), (GREAT, 60)), ((59, 60), (1, 60)), ((3, 8), (1, 9))]:
            numbers = rests_of(start, 3600)
            for far in (0, GREAT, 10 ** 48 - 10 ** 5):
                base = far - (far - end[0]) % end[1]
                row = sorted(base + end[1] * chance.randint(0, 3600 // end[1]) for _ in numbers)
                lead = Lead(start, end, 3600, row)
                self.assertEqual([lead.at(v - 3600) + 3600 for v in numbers], row)
                self.assertEqual(lead, Lead(start, end, 3600, tuple(row)))
                back = back_of(lead)
                for u in back.row()[:3] + back.row()[-3:]:
                    self.assertEqual((u - start[0]) % start[1], 0)
                for u in rests_of(end, 3600):
                    self.assertLessEqual(lead.at(back.at(u)), u)
                    self.assertGreater(lead.at(back.at(u) + start[1]), u)
                found = jumps(lead)
                self.assertEqual(found, [v for v in numbers if lead.at(v) > lead.at(v - start[1])])
                higher = later_lead(lead, Lead(start, end, 3600, [max(row)] * len(row)))
                self.assertEqual(higher.row(), [max(row)] * len(row))
                onward = staying_lead(end, 3600)
                self.assertEqual(and_then(lead, onward), lead)
                for k in (0, len(row) - 1):
                    wrong = row[:k] + [row[k] + 1 if end[1] > 1 else None] + row[k + 1:]
                    self.refused(BadLead, {"path": (3, k)}, Lead, start, end, 3600, wrong)

    def test_long_stars(self):
        slow = Lead(TICK, TICK, 3600, [min(v + 1, 3599) for v in range(3600)])
        self.assertEqual(star_of(slow).row(), [3599] * 3600)
        backward = Lead(TICK, TICK, 3600, [max(v - 1, 0) for v in range(3600)])
        self.assertEqual(star_of(backward), staying_lead(TICK, 3600))
        self.refused(Gain, {"ring": (0, 3600)}, star_of, Lead(TICK, TICK, 3600, [v + 1 for v in range(3600)]))
        self.refused(Gain, {"ring": (59, 60)}, star_of, Lead((-1, 60), (-1, 60), 3600, [v + 60 for v in range(59, 3600, 60)]))
        self.refused(Gain, {"ring": (0, 1)}, star_of, Lead(TICK, TICK, 3600, [10 ** 48 + v for v in range(3600)]))
        far = Lead(TICK, TICK, 3600, [v - 10 ** 48 for v in range(3600)])
        self.assertEqual(star_of(far), staying_lead(TICK, 3600))

    def test_rules_and_greater_periods(self):
        for start, end in [((GREAT, 60), (-GREAT, 60)), ((-GREAT, 1), (GREAT, 60)), ((GREAT, 59), (0, 1))]:
            period = max(start[1], end[1])
            for least in (GREAT, -GREAT, 10 ** 48 - 1000, 1000 - 10 ** 48):
                lead = rule_lead(start, end, period, least)
                long = with_period(lead, 60)
                self.assertEqual(long, rule_lead(start, end, period * 60, least))
                self.assertEqual(long.at(start[0] + start[1] * 10 ** 40), lead.at(start[0] + start[1] * 10 ** 40))
                self.assertEqual(len(jumps(long)), 60 * len(jumps(lead)))
                self.assertEqual(with_period(back_of(lead), 60), back_of(long))

    def test_values_nested_40_deep(self):
        lead = stay(TICK)
        for wrap in (lambda value: [value], lambda value: (value,), lambda value: {"a": value}, lambda value: (value, 1)):
            value = nested(40, wrap, 0)
            self.refused(BadLead, {"path": (0,)}, Lead, value, value, value, value)
            self.refused(BadLead, {"path": (1,)}, Lead, TICK, value, value, value)
            self.refused(BadLead, {"path": (2,)}, Lead, TICK, TICK, value, value)
            self.refused(BadLead, {"path": (3, 1)}, Lead, TICK, TICK, 2, [0, value])
            self.refused(NoWay, {}, lead.at, value)
            self.assertFalse(lead == value)
            self.assertTrue(lead != value)


class Tables(Case):
    def table(self, many, period, far):
        doors = [(f"d{k}", k + far, (1, 2, 3)[k % 3]) for k in range(many)]
        leads = [(p, q, rule_lead(first, second, period, -far if p != q else 0))
                 for p, first in clocks_of(doors).items() for q, second in clocks_of(doors).items()]
        return Table(doors, period, leads)

    def test_6_doors(self):
        for far in (60, GREAT):
            one, other = self.table(6, 60, far), self.table(6, 6, far)
            self.assertIs(one.is_closed(), True)
            self.assertIs(are_alike_tables(one, other), True)
            self.assertFalse(one == other)
            self.assertEqual(one, self.table(6, 60, far))
            self.assertIs(are_alike_tables(one, self.table(6, 54, far)), True)
            self.assertIs(are_alike_tables(one, self.table(5, 60, far)), False)
            self.assertIs(are_alike_tables(one, self.table(6, 60, far + 6)), False)

    def test_values_nested_40_deep(self):
        found = self.table(2, 6, 0)
        for wrap in (lambda value: [value], lambda value: (value,), lambda value: {"a": value}):
            value = nested(40, wrap, "a")
            self.refused(BadTable, {"path": (0, 0) if type(value) is not dict else (0,)}, Table, value, value, value)
            self.refused(BadTable, {"path": (0, 0)}, Table, [value], value, value)
            self.refused(BadTable, {"path": (1,)}, Table, [], value, value)
            self.refused(BadTable, {"path": (2, 0) if type(value) is not dict else (2,)}, Table, [], 1, value)
            self.refused(UnknownName, {"name": value}, found.lead, value, value)
            self.assertFalse(found == value)


class Elimination(Case):
    def test_40_points_120_rules_and_6_doors(self):
        chance = random.Random(74)
        tables = 0
        for points, rules in great_networks():
            network, names = Network(points, rules), [point[0] for point in points]
            doors = chance.sample(names, 6)
            if risen(points, rules, [0] * 40) is None:
                self.assertIsNone(table_of(network, doors))
                self.assertIsNone(table_by(network, doors, names))
                self.assertEqual(possible_numbers(network, names[0]), [])
                with self.assertRaises(Gain) as caught:
                    lead_from(network, *doors[:2])
                self.assertTrue(gains(points, rules, caught.exception.ring))
                continue
            tables += 1
            found = table_of(network, doors)
            self.assertIs(found.is_closed(), True)
            for sequence in (names, names[::-1], chance.sample(names, 40)):
                self.assertEqual(table_by(network, doors, sequence), found)
            for p in doors:
                clock = clocks_of(points)[p]
                for v in rests_of(clock, 60):
                    numbers = risen(points, rules, [v if name == p else None for name in names])
                    for q in doors:
                        lead = found.lead(p, q)
                        self.assertEqual(None if lead is None else lead.at(v), numbers[names.index(q)])
                expected = [v for v in rests_of(clock, 60) if found.lead(p, p).at(v) == v]
                self.assertEqual(possible_numbers(network, p), expected)
            self.assertEqual(lead_from(network, *doors[:2]), found.lead(*doors[:2]))
        self.assertGreater(tables, 3)

    def test_all_points_in_a_tight_ring(self):
        points = [(f"p{k}", 0, STEPS[k % 12]) for k in range(40)]
        for last, possible in ((-59, 60), (0, 1)):
            rules = [(f"p{k}", f"p{(k + 1) % 40}", last if k == 39 else 0) for k in range(40)]
            network = Network(points, rules)
            self.assertEqual(len(possible_numbers(network, "p0")), possible)
        rules[39] = ("p39", "p0", 1)
        self.assertEqual(possible_numbers(Network(points, rules), "p0"), [])

    def test_values_near_the_limits(self):
        points = [(f"p{k}", (-1) ** k * GREAT + k, STEPS[k % 12]) for k in range(40)]
        rules = [(f"p{k}", f"p{k + 1}", GREAT) for k in range(39)] + [(f"p{k + 1}", f"p{k}", -GREAT - 120) for k in range(39)]
        network = Network(points, rules)
        lead = lead_from(network, "p0", "p39")
        for v in lead.start(), (GREAT - 17, 1):
            number = v[0]
            numbers = risen(points, rules, [number] + [None] * 39)
            self.assertEqual(lead.at(number), numbers[39])
        self.assertGreater(lead.at(0), 39 * GREAT)


if __name__ == "__main__":
    unittest.main()
