"""What is refused as a lead, told by its path."""

import unittest

from roundticks.errors import BadLead
from roundticks.leads import Lead
from tests.case import Case, anything, nested, stay

CLOCK = (0, 2)
END = (1, 3)
ROW = [1, 1, 4]
NO_CLOCKS = [None, True, False, 0, "", "ab", "01", [], [0, 1], (), (0,), (0, 1, 1), ("a", 0, 1), (None, 1), (True, 1), (False, 1),
             ("0", 1), ([0], 1), ((0,), 1), ((0, 1),), [(0, 1)], (0, None), (0, True), (0, "1"), (0, [1]), (0, (1,)), (0, 0),
             (0, -1), (0, 61), (0, 10 ** 30), {}, {0: 1}, {0: 0, 1: 1}, {(0, 1): 0}, stay((0, 1)),
             nested(40, lambda value: (value, 1), 0), nested(40, lambda value: (0, value), 1)]
NO_PERIODS = [None, True, False, "", "6", [], [6], (6,), {}, {6: 6}, 0, -1, -6, 1, 2, 3, 4, 5, 7, 8, 9, 10, 61, 10 ** 30, 10 ** 30 + 1,
              stay((0, 1))]
NO_LISTS = [None, True, 0, 3, "", "114", {}, {0: 1, 1: 1, 2: 4}, stay((0, 1))]
NO_INTEGERS = [None, True, False, "", "1", "a", [], [1], (), (1,), {}, {1: 1}, stay((0, 1)), nested(40, lambda value: [value], 1)]


class Refused(Case):
    def check(self, path, start=CLOCK, end=END, period=6, row=ROW):
        """The path is told for rows that are lists and tuples."""
        self.refused(BadLead, {"path": path}, Lead, start, end, period, row)
        if type(row) is list:
            self.refused(BadLead, {"path": path}, Lead, start, end, period, tuple(row))

    def test_right_ones(self):
        for row in (ROW, tuple(ROW), [1, 4, 7], [-2, 1, 1], [1, 1, 1], [1, 7, 7], [-5, -5, 1]):
            self.assertEqual(Lead(CLOCK, END, 6, row).row(), list(row))
        for step in range(1, 61):
            self.assertEqual(Lead((0, step), (5, 1), step, [7]).row(), [7])
            self.assertEqual(Lead((5, 1), (0, step), step, [step] * step).row(), [step] * step)

    def test_starts(self):
        for start in NO_CLOCKS:
            self.check((0,), start=start)
            for end in (END, None, [0, 1]):
                for period in (6, 0, None):
                    for row in (ROW, [0], None, [1, 1, 0]):
                        self.check((0,), start, end, period, row)

    def test_ends(self):
        for end in NO_CLOCKS:
            self.check((1,), end=end)
            for period in (6, 0, None):
                for row in (ROW, [0], None, [1, 1, 0]):
                    self.check((1,), CLOCK, end, period, row)

    def test_periods(self):
        for period in NO_PERIODS:
            for row in (ROW, [1], [], None, [1, 1, 0], [1, 1, 2], [True, 1, 4], [4, 1, 1], [1, 1, 10]):
                self.check((2,), period=period, row=row)

    def test_periods_that_are_no_multiple_of_one_step(self):
        for period in range(1, 40):
            if period % 4 != 0:
                self.check((2,), (1, 4), (0, 1), period, [0] * (period // 4))
                self.check((2,), (0, 1), (1, 4), period, [1] * period)
            else:
                self.assertEqual(Lead((1, 4), (0, 1), period, [0] * (period // 4)).period(), period)
                self.assertEqual(Lead((0, 1), (1, 4), period, [1] * period).period(), period)
        for period in (0, -4, -12):
            self.check((2,), (1, 4), (0, 1), period, [])

    def test_rows_that_are_no_lists(self):
        for row in NO_LISTS:
            self.check((3,), row=row)

    def test_rows_of_wrong_length(self):
        for row in ([], [1], [1, 1], [1, 1, 1, 1], [1] * 6, [None] * 2, [None] * 4, [7, 4], [1, 4, 7, 10]):
            self.check((3,), row=row)
        for many in range(12):
            for step in (1, 2, 3, 4, 6, 12):
                if many != 12 // step:
                    self.check((3,), (7, step), (0, 1), 12, [0] * many)
        self.check((3,), (0, 1), (0, 1), 10 ** 40, [0])

    def test_members_that_are_no_numbers_of_the_end(self):
        for k in range(3):
            for value in NO_INTEGERS + [0, 2, 3, 5, -1, 10 ** 30 - 1, 10 ** 30 + 1]:
                row = list(ROW)
                row[k] = value
                self.check((3, k), row=row)

    def test_the_first_such_member(self):
        self.check((3, 0), row=[None, None, None])
        self.check((3, 1), row=[1, None, None])
        self.check((3, 1), row=[1, 2, 0])
        self.check((3, 2), row=[7, 4, 0])
        self.check((3, 2), row=[1, -2, True])
        self.check((3, 2), row=[1, 1, 8])
        self.check((3, 0), row=[0, 1, -2])

    def test_rows_that_go_down(self):
        self.check((4, 1), row=[4, 1, 4])
        self.check((4, 1), row=[4, 1, 1])
        self.check((4, 1), row=[7, 4, 1])
        self.check((4, 2), row=[1, 4, 1])
        self.check((4, 2), row=[1, 1, -2])
        self.check((4, 2), row=[1, 10, 7])
        self.check((4, 1), row=[1, -2, 10])
        row = list(range(60))
        for k in range(1, 60):
            lower = row[:k] + [row[k] - 2] + row[k + 1:]
            self.check((4, k), (0, 1), (0, 1), 60, lower)
            self.check((4, k), (0, 1), (0, 1), 60, lower[:59] + [row[59] + 9 if k < 59 else 57])

    def test_rows_that_rise_above_a_period(self):
        self.check((4, 0), row=[1, 1, 10])
        self.check((4, 0), row=[1, 10, 10])
        self.check((4, 0), row=[-2, 1, 7])
        self.check((4, 0), row=[1, 1, 10 ** 30])
        self.check((4, 0), (0, 1), (0, 1), 2, [0, 3])
        self.assertEqual(Lead((0, 1), (0, 1), 2, [0, 2]).row(), [0, 2])
        self.check((4, 0), (0, 1), (0, 2), 2, [0, 4])

    def test_one_member_alone(self):
        self.assertEqual(Lead((0, 6), END, 6, [10 ** 30]).row(), [10 ** 30])
        for value in (10 ** 30 + 1, None, True):
            self.check((3, 0), start=(0, 6), row=[value])

    def test_odd_values_in_each_place(self):
        for value in anything() + [stay((0, 1), 60)]:
            self.check((0,), start=value)
            self.check((0,), value, value, value, value)
            self.check((1,), end=value)
            self.check((1,), CLOCK, value, value, value)
            if type(value) is not int or value != 60:
                self.check((2,), period=value)
                self.check((2,), period=value, row=value)
            is_triple = type(value) in (list, tuple) and len(value) == 3
            self.check((3, 0) if is_triple else (3,), row=value)
            if type(value) is not int or value % 3 != 1:
                for k in range(3):
                    self.check((3, k), row=ROW[:k] + [value] + ROW[k + 1:])

    def test_true_is_not_1(self):
        self.assertEqual(Lead((1, 1), (1, 1), 1, [1]).row(), [1])
        self.check((0,), (True, 1), (1, 1), 1, [1])
        self.check((0,), (1, True), (1, 1), 1, [1])
        self.check((1,), (1, 1), (1, True), 1, [1])
        self.check((2,), (1, 1), (1, 1), True, [1])
        self.check((3, 0), (1, 1), (1, 1), 1, [True])

    def test_the_right_length_is_told_by_the_start(self):
        for first in (-7, -1, 0, 1, 2, 5, 10 ** 30):
            self.assertEqual(Lead((first, 3), (0, 2), 6, [0, 2]).row(), [0, 2])
            self.check((3,), (first, 3), (0, 2), 6, [0, 2, 4])
            self.check((3,), (first, 3), (0, 2), 6, [0])


if __name__ == "__main__":
    unittest.main()
