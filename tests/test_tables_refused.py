"""What is refused as a table, told by its path."""

import unittest

from roundticks.errors import BadTable
from roundticks.leading import with_period
from roundticks.leads import Lead
from roundticks.tables import Table
from tests.case import Case, anything, nested, stay

DOORS = [("a", 0, 2), ("b", 1, 3)]
TO_B = Lead((0, 2), (1, 3), 6, [1, 4, 7])
OMITTED = object()


def leads():
    return [("a", "a", stay((0, 2), 6)), ("a", "b", TO_B), ("b", "b", stay((1, 3), 6))]


NO_LISTS = [None, True, 0, 1, "", "ab", {}, {0: ("a", 0, 1)}, {("a", 0, 1): 0}, stay((0, 1))]
NO_NAMES = [None, True, 0, "", "A", "1a", "abcdefghijklm", [], ["a"], (), ("a",), {}, {"a": 1}, ("a", 0, 2), stay((0, 1)),
            nested(40, lambda value: [value], "a")]


class Refused(Case):
    def check(self, path, doors=DOORS, period=6, members=OMITTED):
        """The path is told for lists and for tuples of doors and of leads."""
        members = leads() if members is OMITTED else members
        for some in (list, tuple):
            for others in (list, tuple):
                told = some(doors) if type(doors) is list else doors
                others_told = others(members) if type(members) is list else members
                self.refused(BadTable, {"path": path}, Table, told, period, others_told)

    def test_right_ones(self):
        for some in (list, tuple):
            table = Table(some(DOORS), 6, some(leads()))
            self.assertEqual(table.doors(), DOORS)
        self.assertEqual(Table([], 1, []).doors(), [])
        self.assertEqual(Table((), 7, ()).period(), 7)
        Table(DOORS, 6, leads()[::-1])
        Table(DOORS, 6, leads()[::2])

    def test_doors_that_are_no_list(self):
        for value in NO_LISTS:
            for period in (6, 0, None):
                for members in (leads(), [], 5, [None]):
                    self.check((0,), value, period, members)

    def test_doors_that_are_no_triples(self):
        for door in [None, True, 0, "", "abc", [], ["b", 1, 3], {}, (), ("b",), ("b", 1), ("b", 1, 3, 3), (("b", 1, 3),)]:
            for period, members in [(6, leads()), (0, []), (None, 5)]:
                self.check((0, 0), [door], period, members)
                self.check((0, 1), [DOORS[0], door], period, members)
                self.check((0, 0), [door, door], period, members)

    def test_parts_of_doors(self):
        for period, members in [(6, leads()), (0, []), (None, 5)]:
            for name in NO_NAMES + ["a"]:
                for first, step in [(1, 3), (None, 3), (1, 0)]:
                    self.check((0, 1, 0), [DOORS[0], (name, first, step), None], period, members)
            for first in (None, True, "", "1", [], (), stay((0, 1))):
                for step in (3, 0, None):
                    self.check((0, 1, 1), [DOORS[0], ("b", first, step), None], period, members)
            for step in (None, True, "", "3", [], (), 0, -3, 61, 10 ** 30):
                self.check((0, 1, 2), [DOORS[0], ("b", 1, step), None], period, members)
                self.check((0, 0, 2), [("b", 1, step), ("b", 0, 1)], period, members)

    def test_periods(self):
        for period in [None, True, False, "", "6", [], [6], (6,), {}, 0, -6, 1, 2, 3, 4, 5, 7, 8, 9, 10, 61, 10 ** 30, stay((0, 1))]:
            for members in (leads(), [], 5, [None], [("x", "a", 0)]):
                self.check((1,), period=period, members=members)
        for period in (True, 0, -1, None):
            self.check((1,), [], period, [])
        self.check((1,), [("a", 0, 1)], True, [("a", "a", stay((0, 1)))])

    def test_leads_that_are_no_list(self):
        for value in NO_LISTS:
            self.check((2,), members=value)
            self.check((2,), [], 1, value)

    def test_members_that_are_no_triples(self):
        for member in [None, True, 0, "", "aab", [], ["a", "a", stay((0, 2), 6)], {}, (), ("a",), ("a", "a"),
                       ("a", "a", stay((0, 2), 6), 0), (("a", "a", stay((0, 2), 6)),), stay((0, 2), 6)]:
            self.check((2, 0), members=[member])
            self.check((2, 3), members=leads() + [member, ("x", "y", 0)])
            self.check((2, 1), members=leads()[:1] + [member] + leads()[1:])
            self.check((2, 0), [], 1, [member])

    def test_names_of_members(self):
        for name in NO_NAMES + ["c", "ab", "a "]:
            for q in ("a", "x", None):
                for lead in (stay((0, 2), 6), None):
                    self.check((2, 0, 0), members=[(name, q, lead), None])
                    self.check((2, 3, 0), members=leads() + [(name, q, lead)])
            for lead in (TO_B, None, stay((0, 2), 6)):
                self.check((2, 0, 1), members=[("a", name, lead), None])
                self.check((2, 2, 1), members=leads()[:2] + [("b", name, lead), ("x", "a", None)])

    def test_leads_of_members(self):
        wrong = [None, True, 0, [1, 4, 7], (1, 4, 7), "a", ((0, 2), (1, 3), 6, [1, 4, 7]),
                 Lead((1, 2), (1, 3), 6, [1, 4, 7]), Lead((0, 2), (0, 3), 6, [3, 3, 6]), Lead((0, 1), (1, 3), 6, [1] * 6),
                 Lead((0, 2), (1, 1), 6, [1, 4, 7]), Lead((0, 2), (1, 6), 6, [1, 7, 7]), with_period(TO_B, 2),
                 Lead((1, 3), (0, 2), 6, [2, 4]), stay((0, 2), 6)]
        for lead in wrong:
            self.check((2, 0, 2), members=[("a", "b", lead)] + leads())
            self.check((2, 1, 2), members=[leads()[0], ("a", "b", lead), None])
            self.check((2, 3, 2), members=leads() + [("a", "b", lead), leads()[0]])
        for period in (2, 4, 12):
            self.check((2, 0, 2), members=[("a", "a", stay((0, 2), period))])
        self.check((2, 0, 2), members=[("a", "a", stay((1, 2), 6))])
        self.check((2, 2, 2), members=leads()[:2] + [("b", "b", stay((0, 3), 6))])

    def test_clocks_that_are_alike_are_taken(self):
        table = Table(DOORS, 6, [("a", "a", stay((-8, 2), 6)), ("b", "b", stay((7, 3), 6)), ("a", "b", Lead((4, 2), (-2, 3), 6, [1, 4, 7]))])
        self.assertEqual(table, Table(DOORS, 6, leads()))

    def test_two_members_with_the_same_two_names(self):
        self.check((2, 3), members=leads() + leads()[:1])
        self.check((2, 1), members=[leads()[0], leads()[0], None])
        self.check((2, 2), members=[leads()[1], leads()[0], ("a", "b", Lead((0, 2), (1, 3), 6, [1, 1, 1]))])
        self.check((2, 4), members=leads() + [("b", "a", Lead((1, 3), (0, 2), 6, [2, 4]))] + leads()[2:])
        # Ahead of this comes what is wrong within the member.
        self.check((2, 3, 2), members=leads() + [("a", "a", None)])

    def test_each_member_is_looked_at_completely(self):
        self.check((2, 0, 2), members=[("a", "a", None), ("x", "a", None)])
        self.check((2, 0, 1), members=[("a", "x", None), None])
        self.check((2, 1), members=[leads()[0], leads()[0], ("x", "a", None)])

    def test_doors_without_a_lead_to_themselves(self):
        self.check((3, 0), members=[])
        self.check((3, 0), members=leads()[1:])
        self.check((3, 1), members=leads()[:2])
        self.check((3, 0), members=leads()[1:2])
        self.check((3, 1), members=[leads()[1], leads()[0], ("b", "a", Lead((1, 3), (0, 2), 6, [2, 4]))])
        doors = [(f"d{k}", 0, 1) for k in range(6)]
        for k in range(6):
            told = [(name, name, stay((0, 1), 2)) for name, _, _ in doors]
            self.check((3, k), doors, 2, told[:k] + told[k + 1:])
            self.check((3, k), doors, 2, told[:k])

    def test_wrong_members_are_ahead_of_missing_ones(self):
        self.check((2, 0, 2), members=[("a", "b", None)])
        self.check((2, 1), members=[leads()[2], leads()[2]])

    def test_values_of_all_kinds(self):
        for value in anything():
            if type(value) not in (list, tuple):
                self.check((0,), value, value, value)
                self.check((2,), members=value)
            if type(value) is not int or value < 1 or value % 6 != 0:
                self.check((1,), period=value, members=value)
            if value not in ("a", "b"):
                self.check((2, 0, 0), members=[(value, value, value)])
                self.check((2, 0, 1), members=[("a", value, value)])
            self.check((2, 0, 2), members=[("a", "b", value)])
            if type(value) is not tuple or len(value) != 3:
                self.check((0, 0), [value], value, value)
                self.check((2, 0), members=[value])


if __name__ == "__main__":
    unittest.main()
