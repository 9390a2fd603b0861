"""The numbers of clocks."""

import unittest

from roundticks.numbers import are_alike_clocks, down, is_on, up
from tests.case import Case, anything

CLOCKS = [(0, 1), (7, 1), (-7, 1), (0, 2), (1, 2), (-1, 2), (0, 3), (5, 7), (-5, 7), (12, 7), (0, 60), (59, 60),
          (-61, 60), (10 ** 30, 60), (-10 ** 30, 60), (10 ** 30 + 1, 7), (1 - 10 ** 30, 9)]


class UpAndDown(Case):
    def test_on_beside_and_between_numbers(self):
        for clock in CLOCKS:
            first, step = clock
            for times in (-10 ** 28, -3, -1, 0, 1, 2, 10 ** 28):
                number = first + times * step
                self.tells(number, up, clock, number)
                self.tells(number, down, clock, number)
                for beside in range(1, step):
                    self.tells(number + step, up, clock, number + beside)
                    self.tells(number, down, clock, number + beside)

    def test_some_by_hand(self):
        for clock, x, above, below in [((5, 7), 6, 12, 5), ((5, 7), 4, 5, -2), ((5, 7), 0, 5, -2), ((5, 7), -3, -2, -9),
                                       ((0, 1), -5, -5, -5), ((100, 60), 0, 40, -20), ((-100, 60), 0, 20, -40),
                                       ((1, 2), 10 ** 30, 10 ** 30 + 1, 10 ** 30 - 1),
                                       ((0, 2), 1 - 10 ** 30, 2 - 10 ** 30, -10 ** 30)]:
            self.tells(above, up, clock, x)
            self.tells(below, down, clock, x)

    def test_numbers_of_40_digits(self):
        for x in (10 ** 40 - 1, 1 - 10 ** 40):
            for clock in CLOCKS:
                self.assertIn(up(clock, x) - x, range(clock[1]))
                self.assertIn(x - down(clock, x), range(clock[1]))
                self.assertEqual((up(clock, x) - clock[0]) % clock[1], 0)
                self.assertEqual((down(clock, x) - clock[0]) % clock[1], 0)


class IsOn(Case):
    def test_integers(self):
        for clock in CLOCKS:
            first, step = clock
            for times in (-10 ** 28, -2, -1, 0, 1, 5, 10 ** 28):
                for beside in range(-step, step + 1):
                    self.tells(beside % step == 0, is_on, clock, first + times * step + beside)

    def test_values_that_are_no_integers(self):
        for clock in ((0, 1), (1, 1), (0, 2), (1, 2)):
            for value in [True, False, None, "", "0", "1", [], [0], (), (0,), {}, clock]:
                self.tells(False, is_on, clock, value)

    def test_values_of_all_kinds(self):
        for value in anything():
            self.tells(type(value) is int, is_on, (0, 1), value)
            self.tells(type(value) is int and value % 7 == 1, is_on, (-6, 7), value)


class AreAlike(Case):
    def test_the_same_numbers(self):
        for clock in CLOCKS:
            first, step = clock
            self.tells(True, are_alike_clocks, clock, clock)
            for times in (-10 ** 28, -1, 1, 2, 10 ** 29):
                self.tells(True, are_alike_clocks, clock, (first + times * step, step))
                self.tells(True, are_alike_clocks, (first + times * step, step), clock)

    def test_other_numbers(self):
        for clock in CLOCKS:
            first, step = clock
            for beside in range(1, step):
                self.tells(False, are_alike_clocks, clock, (first + beside, step))
                self.tells(False, are_alike_clocks, (first + beside, step), clock)
            for other in range(1, 61):
                if other != step:
                    self.tells(False, are_alike_clocks, clock, (first, other))
                    self.tells(False, are_alike_clocks, (first, other), clock)


if __name__ == "__main__":
    unittest.main()
