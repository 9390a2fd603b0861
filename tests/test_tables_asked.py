"""What tables tell of themselves, and which are closed, equal and alike (S5.3)."""

import itertools
import unittest

from roundticks.elimination import table_of
from roundticks.errors import UnknownName
from roundticks.leading import with_period
from roundticks.leads import Lead
from roundticks.networks import Network
from roundticks.tables import Table, are_alike_tables
from tests.case import Case, anything, nested, sample, stay

TICK = (0, 1)
DOORS = [("a", 0, 2), ("b", 1, 3)]
TO_B = Lead((0, 2), (1, 3), 6, [1, 4, 7])


def table(*more):
    return Table(DOORS, 6, [("a", "a", stay((0, 2), 6)), ("b", "b", stay((1, 3), 6)), *more])


def ticks(names, rows, period=2):
    """The table of doors with the clock (0, 1), with the leads with these rows, and those that stay where none is told."""
    told = {(name, name): list(range(period)) for name in names}
    told.update(rows)
    leads = [(p, q, Lead(TICK, TICK, period, row)) for (p, q), row in told.items()]
    return Table([(name, 0, 1) for name in names], period, leads)


class Asked(Case):
    def test_doors_and_period(self):
        self.tells(DOORS, table().doors)
        self.tells(6, table().period)
        self.tells([], Table([], 7, []).doors)
        self.tells(7, Table([], 7, []).period)
        self.tells([("a", 0, 2)], Table((("a", 0, 2),), 2, (("a", "a", stay((0, 2))),)).doors)

    def test_leads(self):
        found = table(("a", "b", TO_B))
        self.tells(TO_B, found.lead, "a", "b")
        self.tells(None, found.lead, "b", "a")
        self.tells(stay((0, 2), 6), found.lead, "a", "a")
        self.tells(stay((1, 3), 6), found.lead, "b", "b")
        self.tells(None, table().lead, "a", "b")
        one, other = Lead((0, 2), (1, 3), 6, [1, 1, 4]), Lead((1, 3), (0, 2), 6, [0, 6])
        found = table(("b", "a", other), ("a", "b", one))
        self.tells(one, found.lead, "a", "b")
        self.tells(other, found.lead, "b", "a")

    def test_the_leads_of_the_doors_themselves_may_be_any(self):
        for row in ([0, 0, 0], [-60, -60, -60], [6, 6, 6], [60, 62, 64]):
            lead = Lead((0, 2), (0, 2), 6, row)
            self.tells(lead, Table(DOORS[:1], 6, [("a", "a", lead)]).lead, "a", "a")

    def test_names_that_are_no_doors(self):
        found = table(("a", "b", TO_B))
        for name in ["c", "", "A", "ab", None, 0, True, [], ["a"], (), ("a",), {}, {"a": "b"}, ("a", 0, 2), DOORS, TO_B,
                     nested(40, lambda value: [value], "a")]:
            self.refused(UnknownName, {"name": name}, found.lead, name, "a")
            self.refused(UnknownName, {"name": name}, found.lead, "a", name)
            self.refused(UnknownName, {"name": name}, found.lead, name, "x")
            self.refused(UnknownName, {"name": name}, found.lead, name, [])
            self.refused(UnknownName, {"name": name}, Table([], 1, []).lead, name, name)
        self.refused(UnknownName, {"name": "x"}, found.lead, "x", "y")
        for value in anything():
            if value not in ("a", "b"):
                self.refused(UnknownName, {"name": value}, found.lead, value, value)

    def test_what_is_passed_and_returned_may_be_changed(self):
        doors, leads = list(DOORS), [("a", "a", stay((0, 2), 6)), ("b", "b", stay((1, 3), 6)), ("a", "b", TO_B)]
        found = Table(doors, 6, leads)
        doors.clear()
        leads.clear()
        self.tells(DOORS, found.doors)
        self.tells(TO_B, found.lead, "a", "b")
        found.doors().clear()
        found.lead("a", "b").row().clear()
        self.tells(DOORS, found.doors)
        self.assertEqual(found, table(("a", "b", TO_B)))


class Closed(Case):
    def closed(self, found):
        self.tells(True, found.is_closed)

    def open(self, found):
        self.tells(False, found.is_closed)

    def test_no_doors_and_one_door(self):
        self.closed(Table([], 1, []))
        self.closed(ticks("a", {}))
        self.closed(ticks("a", {("a", "a"): [1, 1]}))
        self.closed(ticks("a", {("a", "a"): [0, 2]}))

    def test_a_lead_to_itself_that_is_too_small(self):
        self.open(ticks("a", {("a", "a"): [0, 0]}))
        self.open(ticks("a", {("a", "a"): [-1, 1]}))
        self.open(ticks("a", {("a", "a"): [-2, -1]}))
        for k in range(6):
            row = list(range(6))
            row[k] -= 1
            self.open(ticks("a", {("a", "a"): row}, 6))
            self.open(ticks("ba", {("a", "a"): row}, 6))
            self.open(ticks("ab", {("a", "a"): row}, 6))

    def test_a_lead_to_itself_that_leads_on(self):
        self.open(ticks("a", {("a", "a"): [1, 2, 2]}, 3))
        self.closed(ticks("a", {("a", "a"): [2, 2, 2]}, 3))
        self.open(ticks("a", {("a", "a"): [1, 2]}))
        self.open(ticks("a", {("a", "a"): [2, 3]}))

    def test_two_doors(self):
        self.closed(ticks("ab", {("a", "b"): [0, 1]}))
        self.closed(ticks("ab", {("a", "b"): [-7, -7]}))
        self.closed(ticks("ab", {("a", "b"): [5, 6], ("b", "a"): [-5, -4]}))
        self.open(ticks("ab", {("a", "b"): [5, 6], ("b", "a"): [-4, -3]}))
        self.open(ticks("ab", {("a", "b"): [5, 6], ("a", "a"): [1, 1]}))
        self.closed(ticks("ab", {("a", "b"): [6, 6], ("a", "a"): [1, 1]}))
        self.open(ticks("ab", {("a", "b"): [5, 6], ("b", "b"): [1, 1]}))
        self.closed(ticks("ab", {("a", "b"): [5, 7], ("b", "b"): [1, 1]}))

    def test_three_doors(self):
        through = {("a", "b"): [3, 4], ("b", "c"): [4, 5]}
        self.open(ticks("abc", through))
        for names in itertools.permutations("abc"):
            self.closed(ticks(names, {**through, ("a", "c"): [7, 8]}))
            self.closed(ticks(names, {**through, ("a", "c"): [8, 9]}))
            self.closed(ticks(names, {**through, ("a", "c"): [7, 9]}))
            self.open(ticks(names, {**through, ("a", "c"): [6, 8]}))
            self.open(ticks(names, {**through, ("a", "c"): [7, 7]}))
            self.open(ticks(names, {**through, ("c", "a"): [-70, -70]}))
            self.open(ticks(names, through))

    def test_doors_with_clocks_told_otherwise(self):
        told = [("a", "a", stay((-4, 2), 6)), ("b", "b", stay((10, 3), 6)), ("a", "b", Lead((2, 2), (4, 3), 6, [1, 4, 7])),
                ("b", "a", Lead((-2, 3), (8, 2), 6, [-4, 0]))]
        self.closed(Table(DOORS, 6, told))
        self.open(Table(DOORS, 6, told[:3] + [("b", "a", Lead((-2, 3), (8, 2), 6, [2, 4]))]))

    def test_tables_of_networks_are_closed(self):
        self.closed(table_of(sample(), ["a", "b", "c"]))
        self.closed(table_of(sample(), ["c", "a"]))

    def test_all_tables_of_a_small_kind(self):
        """Closed is what the definition says, for all leads of one kind between two doors."""
        rows = [None] + [[x, y] for x in (-1, 0, 1) for y in (x, x + 1, x + 2)]
        closed = 0
        for own, there, back in itertools.product(rows[1:], rows, rows):
            told = {("a", "a"): own, ("b", "b"): [0, 1]}
            told.update({pair: row for pair, row in ((("a", "b"), there), (("b", "a"), back)) if row is not None})

            def at(p, q, v):
                return told[p, q][v % 2] + v // 2 * 2

            expected = all(at(p, p, v) >= v for p in "ab" for v in range(2))
            for p, q, r in itertools.product("ab", repeat=3):
                if (p, q) in told and (q, r) in told:
                    expected = expected and (p, r) in told
                    expected = expected and all(at(p, r, v) >= at(q, r, at(p, q, v)) for v in range(2))
            closed += expected
            self.assertIs(ticks("ab", told).is_closed(), expected, told)
        self.assertGreater(closed, 20)


class Equal(Case):
    def equal(self, one, other, are=True):
        self.assertIs(one == other, are)
        self.assertIs(other == one, are)
        self.assertIs(one != other, not are)
        self.assertIs(other != one, not are)

    def test_equal_ones(self):
        self.equal(table(("a", "b", TO_B)), table(("a", "b", TO_B)))
        self.equal(Table([], 1, []), Table((), 1, ()))
        members = [("a", "a", stay((0, 2), 6)), ("a", "b", TO_B), ("b", "b", stay((1, 3), 6))]
        for order in itertools.permutations(members):
            self.equal(Table(tuple(DOORS), 6, order), table(("a", "b", TO_B)))
        self.equal(table(("a", "b", Lead((-2, 2), (4, 3), 6, [1, 4, 7]))), table(("a", "b", TO_B)))

    def test_unequal_ones(self):
        one = table(("a", "b", TO_B))
        self.equal(one, table(), False)
        self.equal(one, table(("a", "b", Lead((0, 2), (1, 3), 6, [1, 4, 4]))), False)
        self.equal(one, table(("a", "b", TO_B), ("b", "a", Lead((1, 3), (0, 2), 6, [-60, -60]))), False)
        self.equal(table(("a", "b", TO_B)), table(("b", "a", Lead((1, 3), (0, 2), 6, [-60, -60]))), False)
        members = [("a", "a", stay((0, 2), 6)), ("a", "b", TO_B), ("b", "b", stay((1, 3), 6))]
        self.equal(one, Table(DOORS[::-1], 6, members), False)
        self.equal(one, Table([("a", 2, 2), ("b", 1, 3)], 6, members), False)
        self.equal(one, Table(DOORS, 12, [(p, q, with_period(lead, 2)) for p, q, lead in members]), False)
        self.equal(one, Table([("a", 0, 2), ("c", 1, 3)], 6, [(p.replace("b", "c"), q.replace("b", "c"), lead) for p, q, lead in members]),
                   False)
        self.equal(Table([], 1, []), Table([], 2, []), False)
        self.equal(ticks("a", {("a", "a"): [0, 1]}), ticks("a", {("a", "a"): [0, 2]}), False)

    def test_values_of_other_kinds(self):
        for value in anything() + [[], DOORS, (DOORS, 6, []), TO_B, sample()]:
            if value != table():
                self.equal(table(), value, False)
        self.equal(Table([], 1, []), [], False)


class Alike(Case):
    def alike(self, one, other, are=True):
        self.tells(are, are_alike_tables, one, other)
        self.tells(are, are_alike_tables, other, one)

    def test_a_table_and_itself(self):
        for found in (table(), table(("a", "b", TO_B)), Table([], 1, []), ticks("abc", {("a", "b"): [0, 0]})):
            self.alike(found, found)

    def test_unlike_periods(self):
        self.alike(Table([], 4, []), Table([], 6, []))
        one = table(("a", "b", TO_B))
        doubled = Table(DOORS, 12, [("a", "a", stay((0, 2), 12)), ("b", "b", stay((1, 3), 12)), ("a", "b", with_period(TO_B, 2))])
        self.alike(one, doubled)
        other = Table(DOORS, 12, [("a", "a", stay((0, 2), 12)), ("b", "b", stay((1, 3), 12)),
                                  ("a", "b", Lead((0, 2), (1, 3), 12, [1, 4, 7, 7, 10, 10]))])
        self.alike(one, other, False)
        # Neither period is a multiple of the other one, and the values are the same only in part of what both tell.
        self.alike(ticks("a", {("a", "a"): list(range(4))}, 4), ticks("a", {("a", "a"): list(range(6))}, 6))
        self.alike(ticks("a", {("a", "a"): [1, 1, 3, 3]}, 4), ticks("a", {("a", "a"): [1, 1, 3, 3, 5, 5]}, 6))
        self.alike(ticks("a", {("a", "a"): [0, 1, 2, 4]}, 4), ticks("a", {("a", "a"): [0, 1, 2, 4, 4, 5]}, 6), False)
        self.alike(ticks("a", {("a", "a"): [0, 1, 2, 3]}, 4), ticks("a", {("a", "a"): [0, 1, 2, 3, 4, 6]}, 6), False)
        self.alike(ticks("a", {("a", "a"): [1]}, 1), ticks("a", {("a", "a"): [k + 1 for k in range(60)]}, 60))
        self.alike(ticks("a", {("a", "a"): [1]}, 1), ticks("a", {("a", "a"): [min(k + 1, 59) for k in range(60)]}, 60), False)

    def test_clocks_told_otherwise(self):
        one = table(("a", "b", TO_B))
        doors = [("a", -8, 2), ("b", 31, 3)]
        members = [("a", "a", stay((4, 2), 6)), ("b", "b", stay((-2, 3), 6)), ("a", "b", Lead((2, 2), (7, 3), 6, [1, 4, 7]))]
        self.alike(one, Table(doors, 6, members))
        self.alike(one, Table(DOORS, 6, members))
        for far in (6 * 10 ** 29, -6 * 10 ** 29):
            self.alike(one, Table([("a", far, 2), ("b", 1 + far, 3)], 6, members))

    def test_clocks_that_are_not_alike(self):
        self.alike(Table([("a", 0, 2)], 2, [("a", "a", stay((0, 2)))]), Table([("a", 1, 2)], 2, [("a", "a", stay((1, 2)))]), False)
        self.alike(Table([("a", 0, 2)], 2, [("a", "a", stay((0, 2)))]), Table([("a", 0, 1)], 2, [("a", "a", stay(TICK, 2))]), False)
        self.alike(Table([("a", 0, 2)], 4, [("a", "a", stay((0, 2), 4))]), Table([("a", 0, 4)], 4, [("a", "a", stay((0, 4)))]), False)

    def test_names_and_their_order(self):
        self.alike(ticks("ab", {}), ticks("ba", {}), False)
        self.alike(ticks("ab", {}), ticks("ac", {}), False)
        self.alike(ticks("ab", {}), ticks("a", {}), False)
        self.alike(ticks("a", {}), Table([], 1, []), False)
        self.alike(ticks("ab", {("a", "b"): [0, 1]}), ticks("ab", {("b", "a"): [0, 1]}), False)

    def test_a_lead_too_many(self):
        for row in ([0, 1], [-60, -60], [7, 9]):
            self.alike(ticks("ab", {}), ticks("ab", {("a", "b"): row}), False)
            self.alike(ticks("ab", {("b", "a"): [0, 1]}), ticks("ab", {("b", "a"): [0, 1], ("a", "b"): row}), False)

    def test_one_value_that_differs(self):
        for pair in itertools.product("ab", repeat=2):
            for k in range(3):
                told = {other: [0, 1, 2] for other in itertools.product("ab", repeat=2)}
                one = ticks("ab", told, 3)
                told[pair] = [0, 1, 2]
                told[pair][k] += 1
                if k < 2:
                    told[pair][k + 1] = max(told[pair][k], told[pair][k + 1])
                self.alike(one, ticks("ab", told, 3), False)


class Networks(Case):
    def test_tables_of_networks_with_unlike_periods(self):
        one = Network([("a", 0, 1), ("b", 0, 1)], [("a", "b", 3)])
        other = Network([("a", 5, 1), ("h", 0, 7), ("b", 9, 1)], [("a", "b", 3)])
        self.assertIs(are_alike_tables(table_of(one, ["a", "b"]), table_of(other, ["a", "b"])), True)
        self.assertIs(are_alike_tables(table_of(one, ["a", "b"]), table_of(other, ["a", "h"])), False)
        self.assertIs(are_alike_tables(table_of(one, ["a", "b"]), table_of(other, ["b", "a"])), False)


if __name__ == "__main__":
    unittest.main()
