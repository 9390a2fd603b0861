"""Leads made of rules and of other leads (S4.2 to S4.6)."""

import itertools
import random
import unittest

from roundticks.errors import BadLead, Gain, Unlike
from roundticks.leading import (and_then, back_of, jumps, later_lead, rule_lead, star_of, staying_lead, with_period)
from roundticks.leads import Lead
from tests.case import Case
from tests.oracle import climbed, rests_of, some_rows, up_of, value_at

TICK = (0, 1)


def told(lead):
    """The clocks, the period and the row of a lead."""
    return lead.start(), lead.end(), lead.period(), lead.row()


def rows_of(period, low, high):
    """All rows of leads from (0, 1) to itself whose first member is between two numbers."""
    for first in range(low, high + 1):
        for rest in itertools.combinations_with_replacement(range(first, first + period + 1), period - 1):
            yield [first, *rest]


class LeadCase(Case):
    def makes(self, expected, function, *arguments):
        """The function returns the lead with these clocks, this period and this row."""
        result = self.told(function, *arguments)
        self.assertIs(type(result), Lead)
        self.assertEqual(told(result), expected, arguments)


class Examples(LeadCase):
    def test_a_rule(self):
        lead = rule_lead(TICK, (1, 2), 6, 2)
        self.makes((TICK, (1, 2), 6, [3, 3, 5, 5, 7, 7]), rule_lead, TICK, (1, 2), 6, 2)
        self.tells([0, 2, 4], jumps, lead)
        self.makes(((1, 2), TICK, 6, [-1, 1, 3]), back_of, lead)

    def test_stars(self):
        for row, star in [([0, 2, 2, 5, 5, 5], [0, 2, 2, 5, 5, 5]), ([1, 2, 2, 3, 4, 5], [2, 2, 2, 3, 4, 5]), ([0, 0], [0, 1])]:
            self.makes((TICK, TICK, len(row), star), star_of, Lead(TICK, TICK, len(row), row))
        self.refused(Gain, {"ring": (0, 6)}, star_of, Lead(TICK, TICK, 6, [1, 2, 3, 4, 5, 6]))

    def test_jumps(self):
        self.tells([2, 5], jumps, Lead(TICK, (1, 2), 6, [1, 1, 3, 3, 3, 7]))


class RuleLeads(LeadCase):
    def test_values(self):
        for start, end, least in itertools.product([(0, 1), (5, 3), (-7, 4)], [(0, 2), (11, 6), (-1, 1)], range(-9, 10)):
            for period in (12, 60):
                row = [up_of(end, v + least) for v in rests_of(start, period)]
                self.makes((start, end, period, row), rule_lead, start, end, period, least)

    def test_great_leasts(self):
        for least in (10 ** 30, -10 ** 30, 10 ** 48 - 60, 60 - 10 ** 48):
            row = [v + least + (1 - v - least) % 7 for v in (2, 5, 8, 11, 14, 17, 20)]
            self.makes(((5, 3), (1, 7), 21, row), rule_lead, (5, 3), (1, 7), 21, least)

    def test_to_the_clock_itself(self):
        self.makes(((1, 4), (1, 4), 8, [1, 5]), rule_lead, (1, 4), (1, 4), 8, 0)
        self.makes(((1, 4), (1, 4), 8, [1, 5]), rule_lead, (1, 4), (1, 4), 8, -3)
        self.makes(((1, 4), (1, 4), 8, [-3, 1]), rule_lead, (1, 4), (1, 4), 8, -4)
        self.makes(((1, 4), (1, 4), 8, [5, 9]), rule_lead, (1, 4), (1, 4), 8, 1)

    def test_the_clocks_are_those_that_were_passed(self):
        self.makes(((9, 3), (-8, 2), 6, [4, 8]), rule_lead, (9, 3), (-8, 2), 6, 4)
        self.makes(((9, 3), (9, 3), 6, [0, 3]), staying_lead, (9, 3), 6)

    def test_periods_that_are_refused(self):
        for period in (0, -1, -12, 1, 2, 3, 4, 6, 8, 9, 10, 11, 13, 18):
            self.refused(BadLead, {"path": (2,)}, rule_lead, (0, 3), (0, 4), period, 5)
            self.refused(BadLead, {"path": (2,)}, rule_lead, (0, 12), (0, 1), period, 5)
            self.refused(BadLead, {"path": (2,)}, rule_lead, (0, 1), (0, 12), period, 5)
            self.refused(BadLead, {"path": (2,)}, staying_lead, (0, 12), period)
        for period in (12, 24, 36):
            self.assertEqual(rule_lead((0, 3), (0, 4), period, 5).period(), period)
            self.assertEqual(staying_lead((0, 12), period).period(), period)
        for period in (0, -1, -60):
            self.refused(BadLead, {"path": (2,)}, rule_lead, TICK, TICK, period, 5)
            self.refused(BadLead, {"path": (2,)}, staying_lead, TICK, period)


class Staying(LeadCase):
    def test_values(self):
        for first, step, times in itertools.product((-7, 0, 2, 61), (1, 2, 5, 60), (1, 2, 3)):
            clock = (first, step)
            self.makes((clock, clock, times * step, rests_of(clock, times * step)), staying_lead, clock, times * step)


class Later(LeadCase):
    def test_values(self):
        chance = random.Random(41)
        for start, end, period, row in some_rows(42, 100):
            low = min(row)
            values = range(low, low + period + 1, end[1])
            others = sorted(chance.choice(values) for _ in row)
            expected = (start, end, period, [max(x, y) for x, y in zip(row, others)])
            self.makes(expected, later_lead, Lead(start, end, period, row), Lead(start, end, period, others))
            self.makes(expected, later_lead, Lead(start, end, period, others), Lead(start, end, period, row))

    def test_all_of_a_small_kind(self):
        leads = [Lead(TICK, TICK, 2, row) for row in rows_of(2, -2, 2)]
        for one, other in itertools.product(leads, repeat=2):
            row = [max(x, y) for x, y in zip(one.row(), other.row())]
            self.assertEqual(told(later_lead(one, other)), (TICK, TICK, 2, row))

    def test_the_clocks_are_those_of_one(self):
        one = Lead((5, 3), (0, 2), 6, [0, 6])
        other = Lead((-1, 3), (8, 2), 6, [2, 4])
        self.makes(((5, 3), (0, 2), 6, [2, 6]), later_lead, one, other)
        self.makes(((-1, 3), (8, 2), 6, [2, 6]), later_lead, other, one)

    def test_unlike(self):
        one = Lead((5, 3), (0, 2), 6, [0, 6])
        for other in (Lead((4, 3), (0, 2), 6, [0, 6]), Lead((5, 3), (1, 2), 6, [1, 5]), Lead((5, 3), (0, 1), 6, [0, 6]),
                      Lead((0, 1), (0, 2), 6, [0] * 6), Lead((5, 3), (0, 2), 12, [0, 6, 6, 12]), Lead((5, 6), (0, 2), 6, [0])):
            self.refused(Unlike, {}, later_lead, one, other)
            self.refused(Unlike, {}, later_lead, other, one)

    def test_only_the_periods_differ(self):
        one = staying_lead((1, 3), 6)
        for times in (2, 3):
            self.refused(Unlike, {}, later_lead, one, with_period(one, times))
            self.refused(Unlike, {}, later_lead, with_period(one, times), one)


class AndThen(LeadCase):
    def test_values(self):
        chance = random.Random(43)
        for start, middle, period, row in some_rows(44, 150):
            end = (chance.randint(-20, 20), chance.choice([step for step in (1, 2, 3, 4, 6) if period % step == 0]))
            base = end[0] + end[1] * chance.randint(-9, 9)
            values = range(base, base + period + 1, end[1])
            onward = sorted(chance.choice(values) for _ in range(period // middle[1]))
            expected = [value_at(middle, period, onward, value) for value in row]
            self.makes((start, end, period, expected), and_then, Lead(start, middle, period, row),
                       Lead(middle, end, period, onward))

    def test_all_of_a_small_kind(self):
        rows = list(rows_of(2, -2, 2))
        for one, other in itertools.product(rows, repeat=2):
            expected = [value_at(TICK, 2, other, value) for value in one]
            self.assertEqual(told(and_then(Lead(TICK, TICK, 2, one), Lead(TICK, TICK, 2, other))), (TICK, TICK, 2, expected))

    def test_the_clocks_are_the_start_of_one_and_the_end_of_other(self):
        one = Lead((5, 3), (0, 2), 6, [0, 6])
        other = Lead((-8, 2), (7, 1), 6, [1, 2, 3])
        self.makes(((5, 3), (7, 1), 6, [1, 7]), and_then, one, other)

    def test_a_row_of_rules_rounds_one_after_another(self):
        clocks = [(0, 1), (1, 2), (0, 3), (0, 1)]
        leads = [rule_lead(clocks[k], clocks[k + 1], 6, least) for k, least in enumerate((2, 1, -6))]
        self.assertEqual(and_then(leads[0], leads[1]).row(), [6, 6, 6, 6, 9, 9])
        self.assertEqual(and_then(and_then(*leads[:2]), leads[2]).row(), [0, 0, 0, 0, 3, 3])
        self.assertEqual(and_then(leads[0], and_then(*leads[1:])).row(), [0, 0, 0, 0, 3, 3])

    def test_what_stays_changes_nothing(self):
        for start, end, period, row in some_rows(45, 30):
            lead = Lead(start, end, period, row)
            self.assertEqual(and_then(staying_lead(start, period), lead), lead)
            self.assertEqual(and_then(lead, staying_lead(end, period)), lead)

    def test_unlike(self):
        one = Lead((5, 3), (0, 2), 6, [0, 6])
        for other in (Lead((1, 2), (0, 2), 6, [0, 2, 4]), Lead((0, 1), (0, 2), 6, [0] * 6), Lead((5, 3), (0, 2), 6, [0, 6]),
                      Lead((0, 6), (0, 2), 6, [0])):
            self.refused(Unlike, {}, and_then, one, other)
        # Only the other two clocks are alike.
        self.refused(Unlike, {}, and_then, Lead((0, 2), (0, 3), 6, [0, 0, 3]), Lead((0, 1), (0, 2), 6, [0] * 6))
        self.assertEqual(and_then(Lead((0, 1), (0, 3), 6, [0] * 6), Lead((0, 3), (0, 2), 6, [4, 6])).row(), [4] * 6)

    def test_only_the_periods_differ(self):
        one = staying_lead((1, 3), 6)
        self.refused(Unlike, {}, and_then, one, with_period(one, 2))
        self.refused(Unlike, {}, and_then, with_period(one, 2), one)


class Stars(LeadCase):
    def check(self, start, end, period, row):
        """The star, or the least number that gains, is as going on step by step tells; returns whether it gains."""
        lead = Lead(start, end, period, row)
        tops = [(v, climbed(start, period, row, v)) for v in rests_of(start, period)]
        for v, (top, steps) in tops:
            if top is None:
                self.refused(Gain, {"ring": (v, steps)}, star_of, lead)
                return True
        self.makes((start, start, period, [top for _, (top, _) in tops]), star_of, lead)
        return False

    def test_all_of_small_kinds(self):
        both = [0, 0]
        for period in (1, 2, 3, 4):
            for row in rows_of(period, -period, period + 1):
                both[self.check(TICK, TICK, period, row)] += 1
        self.assertGreater(min(both), 100)

    def test_by_chance(self):
        chance = random.Random(46)
        both = [0, 0]
        for _ in range(600):
            step = chance.choice((1, 2, 3, 5))
            many = chance.randint(1, 12)
            first = chance.randint(-20, 20)
            period = step * many
            base = first % step + step * chance.randint(-many, 1)
            values = [base + step * k for k in range(many + 1)]
            row = sorted(chance.choice(values) for _ in range(many))
            both[self.check((first, step), (first, step), period, row)] += 1
        self.assertGreater(min(both), 50)

    def test_the_least_number_that_gains_and_its_steps(self):
        # If one number stops, so do all others; so the least one of all gains, or none.
        for row, steps in [([0, 2, 3, 4], None), ([0, 1, 3, 4], None), ([1, 2, 3, 5], 4), ([1, 5, 5, 5], 2), ([2, 2, 3, 5], 3),
                           ([2, 3, 4, 5], 2), ([3, 4, 5, 6], 2), ([4, 5, 6, 7], 1), ([1, 1, 4, 5], None), ([0, 2, 3, 3], None)]:
            self.assertIs(self.check(TICK, TICK, 4, row), steps is not None)
            if steps is not None:
                self.refused(Gain, {"ring": (0, steps)}, star_of, Lead(TICK, TICK, 4, row))
        self.refused(Gain, {"ring": (0, 1)}, star_of, Lead(TICK, TICK, 4, [4, 4, 4, 4]))
        self.refused(Gain, {"ring": (0, 2)}, star_of, Lead(TICK, TICK, 4, [2, 3, 4, 5]))
        self.refused(Gain, {"ring": (2, 1)}, star_of, Lead((5, 3), (2, 3), 3, [5]))
        self.refused(Gain, {"ring": (2, 2)}, star_of, Lead((5, 3), (2, 3), 6, [5, 8]))
        self.refused(Gain, {"ring": (1, 60)}, star_of, Lead((61, 60), (1, 60), 3600, [1 + 60 * k for k in range(1, 61)]))

    def test_the_start_stands_twice(self):
        self.makes(((5, 3), (5, 3), 6, [2, 5]), star_of, Lead((5, 3), (-1, 3), 6, [2, 2]))
        self.makes(((-1, 3), (-1, 3), 6, [5, 5]), star_of, Lead((-1, 3), (5, 3), 6, [5, 5]))

    def test_the_star_is_the_least_of_its_kind(self):
        for period in (2, 3):
            kind = [Lead(TICK, TICK, period, row) for row in rows_of(period, 0, period)]
            for row in rows_of(period, -period, 1):
                lead = Lead(TICK, TICK, period, row)
                fits = [s for s in kind if all(s.at(v) >= v and lead.at(s.at(v)) <= s.at(v) for v in range(period))]
                if any(climbed(TICK, period, row, v)[0] is None for v in range(period)):
                    self.assertEqual(fits, [])
                    continue
                star = star_of(lead)
                self.assertIn(star, fits)
                for other in fits:
                    self.assertTrue(all(x <= y for x, y in zip(star.row(), other.row())))

    def test_unlike(self):
        for start, end, row in [((0, 2), (1, 2), [1, 3, 5]), ((0, 2), (0, 1), [1, 3, 5]), ((0, 1), (0, 2), [0] * 6),
                                ((0, 3), (0, 2), [0, 2]), ((0, 2), (0, 1), [10, 10, 10])]:
            self.refused(Unlike, {}, star_of, Lead(start, end, 6, row))


class Backs(LeadCase):
    def check(self, start, end, period, row):
        lead = Lead(start, end, period, row)
        back = self.told(back_of, lead)
        self.assertEqual((back.start(), back.end(), back.period()), (end, start, period))
        for u in range(-2 * period, 2 * period):
            if (u - end[0]) % end[1] != 0:
                continue
            w = back.at(u)
            self.assertLessEqual(value_at(start, period, row, w), u)
            self.assertGreater(value_at(start, period, row, w + start[1]), u)
            for v in range(-3 * period, 3 * period):
                if (v - start[0]) % start[1] == 0:
                    self.assertEqual(lead.at(v) <= u, v <= w)

    def test_all_of_small_kinds(self):
        for period in (1, 2, 3):
            for row in rows_of(period, -period - 1, period + 1):
                self.check(TICK, TICK, period, row)

    def test_by_chance(self):
        for start, end, period, row in some_rows(47, 100):
            self.check(start, end, period, row)

    def test_rows_far_away(self):
        for far in (6 * 10 ** 30, -6 * 10 ** 30, 6 * 10 ** 47):
            lead = Lead(TICK, (1, 2), 6, [value + far for value in (3, 3, 5, 5, 7, 7)])
            self.makes(((1, 2), TICK, 6, [-1 - far, 1 - far, 3 - far]), back_of, lead)

    def test_flat_leads(self):
        self.makes((TICK, TICK, 4, [0 - 1, 0 - 1, 3, 3]), back_of, Lead(TICK, TICK, 4, [2, 2, 2, 2]))
        self.makes(((0, 4), TICK, 4, [3]), back_of, Lead(TICK, (0, 4), 4, [0, 0, 0, 0]))
        self.makes((TICK, (2, 4), 4, [-2, -2, 2, 2]), back_of, Lead((2, 4), TICK, 4, [2]))

    def test_what_stays_is_its_own_back(self):
        for clock in ((0, 1), (5, 3), (-7, 60)):
            lead = staying_lead(clock, 60)
            self.makes((clock, clock, 60, lead.row()), back_of, lead)


class Jumps(LeadCase):
    def check(self, start, end, period, row):
        lead = Lead(start, end, period, row)
        expected = [v for v in rests_of(start, period)
                    if value_at(start, period, row, v) > value_at(start, period, row, v - start[1])]
        self.tells(expected, jumps, lead)
        self.assertGreater(len(expected), 0)
        # The values at the jumps tell all others.
        for v in range(-period, 2 * period):
            if (v - start[0]) % start[1] == 0:
                below = [u + k * period for u in expected for k in (-2, -1, 0, 1) if u + k * period <= v]
                self.assertEqual(lead.at(v), lead.at(max(below)))

    def test_all_of_small_kinds(self):
        for period in (1, 2, 3, 4):
            for row in rows_of(period, -1, 1):
                self.check(TICK, TICK, period, row)

    def test_by_chance(self):
        for start, end, period, row in some_rows(48, 150):
            self.check(start, end, period, row)

    def test_flat_leads(self):
        for first, step in ((0, 1), (4, 3), (-1, 2), (59, 60)):
            clock = (first, step)
            row = [10] * (60 // step)
            self.tells([first % step], jumps, Lead(clock, (4, 6), 60, row))
        self.tells([3], jumps, Lead(TICK, (0, 4), 4, [0, 0, 0, 4]))
        self.tells([0], jumps, Lead(TICK, (0, 4), 4, [4, 4, 4, 4]))
        self.tells([0], jumps, Lead(TICK, TICK, 1, [7]))

    def test_what_stays_jumps_always(self):
        for clock in ((0, 1), (5, 3), (-7, 20)):
            self.tells(rests_of(clock, 60), jumps, staying_lead(clock, 60))


class Periods(LeadCase):
    def test_values(self):
        for start, end, period, row in some_rows(49, 40):
            lead = Lead(start, end, period, row)
            for times in (1, 2, 3, 60):
                expected = [value_at(start, period, row, v) for v in rests_of(start, period * times)]
                self.makes((start, end, period * times, expected), with_period, lead, times)
                found = with_period(lead, times)
                for v in rests_of(start, period):
                    for k in (-1, 0, 1, times, 10 ** 20):
                        self.assertEqual(found.at(v + k * period), lead.at(v + k * period))
                self.assertEqual(found == lead, times == 1)

    def test_its_jumps(self):
        for start, end, period, row in some_rows(50, 40):
            lead = Lead(start, end, period, row)
            for times in (1, 2, 60):
                expected = [v + k * period for k in range(times) for v in jumps(lead)]
                self.tells(expected, jumps, with_period(lead, times))

    def test_the_clocks_are_those_of_the_lead(self):
        self.makes(((5, 3), (-8, 2), 12, [0, 6, 6, 12]), with_period, Lead((5, 3), (-8, 2), 6, [0, 6]), 2)

    def test_star_and_back_stay_the_same(self):
        for start, _, period, _ in some_rows(51, 30):
            row = [v - v % (2 * start[1]) + start[0] % (2 * start[1]) for v in rests_of(start, period)]
            row = [max(x - start[1], v - period) for x, v in zip(sorted(row), rests_of(start, period))]
            lead = Lead(start, start, period, [v - (v - start[0]) % start[1] for v in row])
            self.assertEqual(star_of(with_period(lead, 3)), with_period(star_of(lead), 3))
            self.assertEqual(back_of(with_period(lead, 3)), with_period(back_of(lead), 3))


class Kinds(LeadCase):
    def test_what_is_returned_stands_alone(self):
        lead = Lead(TICK, TICK, 6, [1, 2, 2, 3, 4, 5])
        for function in (star_of, back_of):
            function(lead).row().clear()
            self.assertEqual(len(function(lead).row()), 6)
        jumps(lead).append(9)
        self.assertEqual(jumps(lead), [0, 1, 3, 4, 5])
        self.assertEqual(told(lead), (TICK, TICK, 6, [1, 2, 2, 3, 4, 5]))


if __name__ == "__main__":
    unittest.main()
