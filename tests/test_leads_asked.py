"""What leads tell of themselves (S4.1)."""

import itertools
import unittest

from roundticks.errors import NoWay
from roundticks.leads import Lead
from tests.case import Case, anything
from tests.oracle import rests_of, some_rows, value_at


class Asked(Case):
    def test_the_example(self):
        lead = Lead((5, 3), (0, 1), 6, [10, 14])
        self.tells(10, lead.at, 2)
        self.tells(14, lead.at, 5)
        self.tells(16, lead.at, 8)

    def test_the_clocks_as_they_were_passed(self):
        for start, end in [((0, 2), (1, 3)), ((-4, 2), (10, 3)), ((10 ** 30, 2), (-10 ** 30, 3)), ((7, 6), (-6, 6))]:
            row = [end[0]] * (6 // start[1])
            lead = Lead(start, end, 6, row)
            self.tells(start, lead.start)
            self.tells(end, lead.end)
            self.tells(6, lead.period)
            self.tells(row, lead.row)
            self.tells(row, Lead(start, end, 6, tuple(row)).row)

    def test_the_row_begins_with_the_least_number_from_0_on(self):
        for first, step in [(5, 3), (-1, 3), (2, 3), (-10 ** 30 - 1, 3), (10 ** 30 + 1, 3), (59, 60), (-1, 60), (0, 1), (60, 60)]:
            for period in (60, 120):
                numbers = rests_of((first, step), period)
                row = [1000 + 2 * k for k in range(len(numbers))] if step > 1 else [1000 + k for k in range(len(numbers))]
                lead = Lead((first, step), (0, 1), period, row)
                for v, value in zip(numbers, row):
                    self.tells(value, lead.at, v)
                    self.assertEqual(lead.at(v - period), value - period)
                    self.assertEqual(lead.at(v + period), value + period)

    def test_far_above_and_far_below(self):
        lead = Lead((5, 3), (0, 1), 6, [10, 14])
        for times in (1, -1, 10 ** 3, -10 ** 3, 10 ** 39, -10 ** 39, 10 ** 48, -10 ** 48):
            self.tells(10 + 6 * times, lead.at, 2 + 6 * times)
            self.tells(14 + 6 * times, lead.at, 5 + 6 * times)
        self.tells(8, lead.at, -1)
        self.tells(4, lead.at, -4)
        lead = Lead((0, 1), (0, 1), 1, [-10 ** 48])
        self.tells(0, lead.at, 10 ** 48)
        self.tells(-2 * 10 ** 48, lead.at, -10 ** 48)

    def test_values_of_many_leads(self):
        for start, end, period, row in some_rows(31, 150):
            lead = Lead(start, end, period, row)
            for v in range(-2 * period, 3 * period):
                if (v - start[0]) % start[1] == 0:
                    self.assertEqual(lead.at(v), value_at(start, period, row, v))
                else:
                    self.refused(NoWay, {}, lead.at, v)

    def test_numbers_off_the_clock(self):
        lead = Lead((5, 3), (0, 1), 6, [10, 14])
        for v in (0, 1, 3, 4, 6, 7, -2, -3, 10 ** 30, 10 ** 30 + 2, -10 ** 30 + 1):
            self.refused(NoWay, {}, lead.at, v)

    def test_values_that_are_no_numbers(self):
        for lead in (Lead((5, 3), (0, 1), 6, [10, 14]), Lead((0, 1), (0, 1), 1, [0])):
            for value in anything():
                if type(value) is not int:
                    self.refused(NoWay, {}, lead.at, value)

    def test_the_row_is_a_new_list_each_time(self):
        row = [10, 14]
        lead = Lead((5, 3), (0, 1), 6, row)
        row[0] = 14
        self.assertEqual(lead.row(), [10, 14])
        first = lead.row()
        first.append(0)
        first[0] = 0
        self.tells([10, 14], lead.row)
        self.assertEqual(lead.at(2), 10)
        self.assertEqual(lead, Lead((5, 3), (0, 1), 6, (10, 14)))


class Equal(Case):
    def equal(self, one, other):
        self.assertIs(one == other, True)
        self.assertIs(other == one, True)
        self.assertIs(one != other, False)
        self.assertIs(other != one, False)

    def unequal(self, one, other):
        self.assertIs(one == other, False)
        self.assertIs(other == one, False)
        self.assertIs(one != other, True)
        self.assertIs(other != one, True)

    def test_clocks_told_by_other_firsts(self):
        for first, last in itertools.product((5, 2, -1, 8, 10 ** 30 + 1), (0, 4, -4, 10 ** 30)):
            one = Lead((first, 3), (last, 4), 12, [0, 4, 4, 8])
            self.equal(one, Lead((2, 3), (0, 4), 12, (0, 4, 4, 8)))
            self.equal(one, one)
            self.assertEqual((one.start(), one.end()), ((first, 3), (last, 4)))

    def test_others_by_one_value(self):
        row = [0, 4, 4, 8]
        one = Lead((2, 3), (0, 4), 12, row)
        for k, value in [(0, -4), (1, 0), (2, 8), (3, 4), (3, 12)]:
            self.unequal(one, Lead((2, 3), (0, 4), 12, row[:k] + [value] + row[k + 1:]))
        self.unequal(one, Lead((2, 3), (0, 4), 12, [value + 12 for value in row]))

    def test_other_clocks(self):
        one = Lead((2, 3), (0, 4), 12, [0, 4, 4, 8])
        self.unequal(one, Lead((1, 3), (0, 4), 12, [0, 4, 4, 8]))
        self.unequal(one, Lead((2, 3), (0, 2), 12, [0, 4, 4, 8]))
        self.unequal(one, Lead((2, 3), (0, 1), 12, [0, 4, 4, 8]))
        self.unequal(Lead((0, 2), (0, 1), 2, [0]), Lead((1, 2), (0, 1), 2, [0]))
        self.unequal(Lead((0, 2), (0, 1), 2, [0]), Lead((0, 1), (0, 1), 1, [0]))
        self.unequal(Lead((0, 1), (0, 2), 2, [0, 0]), Lead((0, 1), (0, 1), 2, [0, 0]))

    def test_other_periods(self):
        self.unequal(Lead((0, 1), (0, 1), 1, [0]), Lead((0, 1), (0, 1), 2, [0, 1]))
        self.unequal(Lead((0, 2), (0, 2), 2, [0]), Lead((0, 2), (0, 2), 4, [0, 2]))

    def test_values_of_other_kinds(self):
        one = Lead((0, 1), (0, 1), 2, [0, 1])
        for value in anything():
            self.unequal(one, value)
        for value in (((0, 1), (0, 1), 2, [0, 1]), ((0, 1), (0, 1), 2, (0, 1)), [0, 1], (0, 1)):
            self.unequal(one, value)

    def test_leads_of_one_kind(self):
        leads = [Lead((0, 1), (0, 1), 2, [x, y]) for x in range(-2, 3) for y in range(x, x + 3)]
        for one, other in itertools.product(leads, repeat=2):
            if one.row() == other.row():
                self.equal(one, other)
            else:
                self.unequal(one, other)


if __name__ == "__main__":
    unittest.main()
