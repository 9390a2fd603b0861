"""Tables glued, chains of copies and the longest chain (S7.2, S7.3), against rises in networks of all copies."""

import math
import random
import unittest

from roundticks.chaining import chained, glued, longest_chain
from roundticks.errors import Unlike
from roundticks.leads import Lead
from roundticks.tables import Table
from tests.case import LEG, Case, risen_table, stay
from tests.oracle import period_of


def linked(parts):
    """The points and rules of networks with the points p and q, of each of which q is the next one's p; the ends are p and q."""
    points, rules = [], []
    for k, (told, more) in enumerate(parts):
        ends = {"p": "p" if k == 0 else f"m{k}", "q": "q" if k == len(parts) - 1 else f"m{k + 1}"}
        names = {name: ends.get(name, f"{name}n{k}") for name, _, _ in told}
        points += [(names[name], first, step) for name, first, step in told if k == 0 or name != "p"]
        rules += [(names[start], names[end], least) for start, end, least in more]
    return points, rules


def some_parts(chance, step, period, first=0):
    """A network with the doors p and q, of a period, with tight rules and a timetable."""
    points = [("p", first, step), ("q", first + step * chance.randint(-9, 9), step), ("w", 0, period)]
    for k in range(chance.randint(0, 2)):
        points.append((f"h{k}", chance.randint(0, 9), chance.choice([s for s in (1, 2, 3, 4, 5, 6, period, period) if period % s == 0])))
    at = {name: number + s * chance.randint(-5, 5) for name, number, s in points}
    names = [name for name in at if name != "w"]
    pairs = [(chance.choice(names), chance.choice(names)) for _ in range(chance.randint(1, 8))]
    if chance.random() < 0.6:
        pairs += [("p", "q"), ("q", "p"), ("p", names[-1]), (names[-1], "p")]
    if chance.random() < 0.4:
        # Few rests are left to a door that is tied to a point with the step of the period.
        door = chance.choice("pq")
        pairs += [(door, "w"), ("w", door)]
    return points, [(p, q, at[q] - at[p] - chance.choice([0, 0, 0, 1, 2, period])) for p, q in pairs]


def shifted_clock(parts, first):
    """The same network, in which the clocks of p and q are told by other firsts."""
    points, rules = parts
    return [(name, point + first * step if name in "pq" else point, step) for name, point, step in points], rules


def table_for(parts):
    return risen_table(*parts, ["p", "q"])


# The legs of S6.5, and legs that cannot go back.
LEGS = ([item[1:] for item in LEG[1][:3]], [item[1:] for item in LEG[1][3:]])
FORWARD = (LEGS[0], LEGS[1][:2])


def rows(table):
    names = [door[0] for door in table.doors()]
    leads = [table.lead(p, q) for p in names for q in names]
    return [None if lead is None else lead.row() for lead in leads]


def two_doors(start, end, period, forward=None, backward=None):
    """A table of the doors p and q that stay, with leads by rows or none."""
    leads = [("p", "p", stay(start, period)), ("q", "q", stay(end, period))]
    leads += [("p", "q", Lead(start, end, period, forward))] if forward else []
    leads += [("q", "p", Lead(end, start, period, backward))] if backward else []
    return Table([("p", *start), ("q", *end)], period, leads)


class Glued(Case):
    def glues(self, one, other):
        """Glued tables are the table of both networks together; returns whether there is one."""
        expected = table_for(linked([one, other]))
        if expected is not None:
            doors = table_for(one).doors()
            clocks = [door[1:] for door in doors]
            leads = []
            for k, row in enumerate(rows(expected)):
                if row is not None:
                    leads.append(("pq"[k // 2], "pq"[k % 2], Lead(clocks[k // 2], clocks[k % 2], expected.period(), row)))
            expected = Table(doors, expected.period(), leads)
        self.tells(expected, glued, table_for(one), table_for(other))
        return expected is not None

    def test_the_example(self):
        self.assertTrue(self.glues(LEGS, LEGS))
        table = table_for(LEGS)
        self.assertEqual(rows(glued(table, table)), [[0, 2, 4], [6, 8, 12], [-12, -10, -8], [0, 2, 4]])

    def test_no_leads_between_doors_and_in_one_direction(self):
        still = (LEGS[0], [("p", "h", 1), ("h", "p", -2), ("q", "q", 0)])
        backward = (LEGS[0], LEGS[1][2:])
        some = [LEGS, FORWARD, still, backward]
        for one in some:
            for other in some:
                self.assertTrue(self.glues(one, other))
        self.assertEqual(rows(glued(table_for(FORWARD), table_for(FORWARD)))[2], None)
        self.assertEqual(rows(glued(table_for(FORWARD), table_for(backward)))[1:3], [None, None])
        self.assertEqual(rows(glued(table_for(FORWARD), table_for(still)))[1:3], [None, None])

    def test_none_where_the_two_leads_at_the_middle_door_gain_together(self):
        # Of the middle door the one bars all rests but 0 and 1, the other one all but those from 2 on.
        clock, period = (0, 1), 6
        low = Table([("p", *clock), ("q", *clock)], period, [("p", "p", stay(clock, period)), ("q", "q", Lead(clock, clock, period, [0, 1, 6, 6, 6, 6]))])
        high = Table([("p", *clock), ("q", *clock)], period, [("p", "p", Lead(clock, clock, period, [2, 2, 2, 3, 4, 5])), ("q", "q", stay(clock, period))])
        both = Table([("p", *clock), ("q", *clock)], period, [("p", "p", Lead(clock, clock, period, [1, 1, 2, 3, 4, 5])), ("q", "q", stay(clock, period))])
        for table in (low, high, both):
            self.assertIs(table.is_closed(), True)
        self.tells(None, glued, low, high)
        self.tells(Table(low.doors(), period, [("p", "p", stay(clock, period)), ("q", "q", stay(clock, period))]), glued, low, both)
        self.assertIsNotNone(glued(high, low))
        # What the middle door does is seen from outside.
        there = Table([("p", *clock), ("q", *clock)], period, [("p", "p", Lead(clock, clock, period, [0, 1, 6, 6, 6, 6])), ("q", "q", Lead(clock, clock, period, [0, 1, 6, 6, 6, 6])),
                                                              ("p", "q", Lead(clock, clock, period, [0, 1, 6, 6, 6, 6])), ("q", "p", Lead(clock, clock, period, [0, 1, 6, 6, 6, 6]))])
        self.assertIs(there.is_closed(), True)
        self.tells(None, glued, there, high)
        self.assertEqual(rows(glued(there, both))[0], [1, 1, 7, 7, 7, 7])

    def test_networks_by_chance(self):
        chance = random.Random(211)
        counted = [0, 0]
        for _ in range(250):
            step = chance.choice([1, 1, 2, 3])
            period = math.lcm(step * chance.choice([1, 2, 4]), chance.choice([1, 6]))
            first = chance.randint(-9, 9)
            one, other = some_parts(chance, step, period, first), some_parts(chance, step, period, first - 4 * step)
            counted[self.glues(one, other)] += 1
        self.assertGreater(min(counted), 10)

    def test_clocks_told_by_other_firsts(self):
        for one, other in [(5, 0), (0, -7), (3, 12)]:
            first, second = shifted_clock(LEGS, one), shifted_clock(FORWARD, other)
            self.assertTrue(self.glues(first, second))
            found = glued(table_for(first), table_for(second))
            self.assertEqual(found.doors(), [("p", 2 * one, 2), ("q", 2 * one, 2)])
            self.assertEqual(rows(found), rows(glued(table_for(LEGS), table_for(FORWARD))))

    def test_the_doors_of_the_returned_table(self):
        one = Table([("a", 4, 2), ("b", -6, 2)], 2, [("a", "a", stay((0, 2))), ("b", "b", stay((2, 2))), ("a", "b", Lead((0, 2), (8, 2), 2, [2]))])
        other = Table([("b", 10, 2), ("a", 12, 2)], 2, [("a", "a", stay((0, 2))), ("b", "b", stay((2, 2))), ("b", "a", Lead((0, 2), (8, 2), 2, [4]))])
        found = self.told(glued, one, other)
        self.assertEqual(found.doors(), [("a", 4, 2), ("b", -6, 2)])
        lead = found.lead("a", "b")
        self.assertEqual((lead.start(), lead.end(), lead.period(), lead.row()), ((4, 2), (-6, 2), 2, [6]))
        for name, clock in [("a", (4, 2)), ("b", (-6, 2))]:
            self.assertEqual((found.lead(name, name).start(), found.lead(name, name).end()), (clock, clock))
        self.assertIsNone(found.lead("b", "a"))

    def test_any_brackets(self):
        chance = random.Random(212)
        nones = 0
        for _ in range(40):
            a, b, c = [table_for(some_parts(chance, 2, 12)) for _ in range(3)]
            ab, bc = glued(a, b), glued(b, c)
            left = None if ab is None else glued(ab, c)
            right = None if bc is None else glued(a, bc)
            self.assertTrue((left is None and right is None) or left == right)
            nones += left is None
        self.assertGreater(nones, 3)


class Refused(Case):
    def test_each_of_the_four_clocks(self):
        clocks = [(0, 2), (0, 2), (4, 2), (-2, 2)]
        for k in range(4):
            for wrong in ((1, 2), (0, 1), (0, 4), (0, 3)):
                told = clocks[:k] + [wrong] + clocks[k + 1:]
                one, other = two_doors(*told[:2], 12), two_doors(*told[2:], 12)
                self.refused(Unlike, {}, glued, one, other)
        self.assertIsNotNone(glued(two_doors(*clocks[:2], 12), two_doors(*clocks[2:], 12)))

    def test_periods(self):
        for one, other in [(2, 4), (4, 2), (6, 12), (60, 30)]:
            self.refused(Unlike, {}, glued, two_doors((0, 2), (0, 2), one), two_doors((0, 2), (0, 2), other))

    def test_ahead_of_none(self):
        clock = (0, 1)
        low, high = Lead(clock, clock, 2, [0, 2]), Lead(clock, clock, 2, [1, 1])
        one = Table([("p", 0, 1), ("q", 0, 1)], 2, [("p", "p", stay(clock, 2)), ("q", "q", low)])
        other = Table([("p", 0, 1), ("q", 0, 1)], 2, [("p", "p", high), ("q", "q", stay(clock, 2))])
        self.tells(None, glued, one, other)
        longer = Table([("p", 0, 1), ("q", 0, 1)], 4, [("p", "p", Lead(clock, clock, 4, [1, 1, 3, 3])), ("q", "q", stay(clock, 4))])
        self.refused(Unlike, {}, glued, one, longer)
        slower = Table([("p", 0, 1), ("q", 0, 2)], 2, [("p", "p", high), ("q", "q", stay((0, 2), 2))])
        self.refused(Unlike, {}, glued, one, slower)

    def test_chains(self):
        for start, end in [((0, 2), (1, 2)), ((0, 1), (0, 2)), ((0, 3), (0, 2))]:
            table = two_doors(start, end, 6)
            for many in (1, 2, 3, 10 ** 18):
                self.refused(Unlike, {}, chained, table, many)
            self.refused(Unlike, {}, longest_chain, table)


class Chained(Case):
    def test_the_example(self):
        table = table_for(LEGS)
        self.assertEqual(rows(chained(table, 2))[1], [6, 8, 12])
        for many in (10 ** 18, 10 ** 18 - 1):
            found = self.told(chained, table, many)
            takes = [3 * 10 ** 18, 3 * 10 ** 18 + 2, 3 * 10 ** 18 + 6]
            # One copy less from 2 takes as many as all from the number ahead of it, which is 0, and so on.
            self.assertEqual(rows(found)[1], takes if many == 10 ** 18 else [3 * 10 ** 18 - 4, 3 * 10 ** 18, 3 * 10 ** 18 + 2])
            self.assertEqual(rows(found)[2], [-6 * many + v for v in (0, 2, 4)])
            self.assertEqual(found.doors(), table.doors())
            self.assertEqual(found.period(), 6)

    def check(self, parts, most=7):
        """One to seven copies are those of the networks, and of gluing copy by copy; returns from how many on there are none."""
        table = table_for(parts)
        one_by_one = table
        for many in range(1, most + 1):
            expected = table_for(linked([parts] * many))
            found = self.told(chained, table, many)
            if expected is None:
                self.assertIsNone(found)
                self.assertIsNone(one_by_one)
                self.assertIsNone(chained(table, 10 ** 18))
                return many
            self.assertIs(type(found), Table)
            self.assertEqual((found.doors(), found.period()), (table.doors(), table.period()))
            self.assertEqual(rows(found), rows(expected))
            self.assertEqual(found, one_by_one)
            for k, lead in enumerate([found.lead(p, q) for p in "pq" for q in "pq"]):
                if lead is not None:
                    self.assertEqual((lead.start(), lead.end()), (table.doors()[k // 2][1:], table.doors()[k % 2][1:]))
            one_by_one = glued(one_by_one, table)
        return None

    def test_one_to_seven_copies(self):
        for parts in (LEGS, FORWARD, (LEGS[0], []), shifted_clock(LEGS, 4), (LEGS[0], LEGS[1][2:])):
            self.assertIsNone(self.check(parts))
        chance = random.Random(221)
        ends = []
        while len(ends) < 60:
            parts = some_parts(chance, chance.choice([1, 2]), chance.choice([4, 6, 12]))
            ends.append(self.check(parts))
        self.assertGreater(ends.count(None), 20)

    def test_none_from_some_number_on(self):
        for many, parts in [(2, ([("p", 0, 3), ("q", 0, 3), ("h", 3, 6)], [("q", "h", -3), ("p", "h", -1), ("h", "q", 3), ("q", "p", -3)])),
                            (3, ([("p", 1, 2), ("q", -1, 2), ("h", 2, 3)], [("h", "p", 0), ("q", "h", -5), ("p", "q", 3)])),
                            (5, ([("p", 0, 2), ("q", 0, 2), ("h", 3, 5)], [("h", "q", 0), ("q", "p", -4), ("p", "h", 1)]))]:
            self.assertEqual(self.check(parts), many)
            table = table_for(parts)
            for more in (many, many + 1, 2 * many, 64, 10 ** 18 - 1, 10 ** 18):
                self.tells(None, chained, table, more)
            self.assertIsNotNone(chained(table, many - 1))

    def test_one_copy(self):
        # Of a table the leads may have clocks told by other firsts; they are equal all the same.
        table = Table([("a", 4, 2), ("b", -6, 2)], 2, [("a", "a", stay((0, 2))), ("b", "b", stay((2, 2))), ("a", "b", Lead((0, 2), (8, 2), 2, [2]))])
        found = chained(table, 1)
        self.assertTrue(found == table)
        self.assertEqual(found.doors(), [("a", 4, 2), ("b", -6, 2)])
        self.assertEqual(found.lead("a", "b").row(), [2])
        self.assertIsNone(found.lead("b", "a"))
        self.assertEqual(chained(table, 3).lead("a", "b").row(), [6])
        self.assertEqual(chained(table, 3).lead("a", "b").end(), (-6, 2))

    def test_very_many_copies(self):
        table = two_doors((0, 1), (0, 1), 1, [10 ** 30], [-2 * 10 ** 30])
        found = self.told(chained, table, 10 ** 18)
        self.assertEqual(rows(found), [[0], [10 ** 48], [-2 * 10 ** 48], [0]])
        for many in (10 ** 18 - 1, 2 ** 59, 2 ** 59 - 1, 2 ** 59 + 1, 999, 1000, 1024):
            self.assertEqual(rows(chained(table, many)), [[0], [many * 10 ** 30], [-2 * many * 10 ** 30], [0]])
        tight = two_doors((0, 1), (0, 1), 1, [10 ** 30], [-10 ** 30])
        self.assertEqual(rows(chained(tight, 10 ** 18)), [[0], [10 ** 48], [-10 ** 48], [0]])


def banned(step, period, rest, ahead):
    """p lies so much ahead of q, and at no number with one rest; so a copy more bars one rest more."""
    points = [("p", rest, step), ("q", rest - ahead, step), ("z", rest + step, period)]
    return points, [("p", "q", -ahead), ("q", "p", ahead), ("p", "z", 2 * step - period), ("z", "p", 0)]


class Longest(Case):
    def check(self, parts, expected):
        """The longest chain is as expected, and by gluing copy by copy, too."""
        table = table_for(parts)
        self.tells(expected, longest_chain, table)
        counts = table.period() // table.doors()[0][2]
        if expected is None:
            self.assertIsNotNone(chained(table, counts * counts + 2))
            self.assertIsNotNone(chained(table, 10 ** 18))
        else:
            self.assertIsNotNone(chained(table, expected))
            self.assertIsNone(chained(table, expected + 1))
            self.assertLessEqual(expected, counts * counts)
        one_by_one = table
        for many in range(1, min(counts * counts + 2, 150)):
            self.assertEqual(one_by_one is None, expected is not None and many > expected)
            one_by_one = None if one_by_one is None else glued(one_by_one, table)

    def test_without_end(self):
        for parts in (LEGS, FORWARD, (LEGS[0], []), (LEGS[0], LEGS[1][2:])):
            self.check(parts, None)
        # Each copy bars one more rest, but in the end half of them are left.
        for period in (4, 12, 60):
            self.check(banned(1, period, 3, 2), None)
        self.check(banned(2, 12, 0, 4), None)

    def test_numbers_from_one_on(self):
        for period in range(2, 13):
            self.check(banned(1, period, 0, 1), period - 1)
            self.check(banned(1, period, 5, period + 1), period - 1)
            self.check(banned(1, period, 1, -1), period - 1)
        self.check(banned(2, 14, 1, 6), 6)
        self.check(banned(3, 24, 1, 9), 7)
        self.check(banned(4, 60, 3, 8), 14)
        for period, ahead in [(60, 1), (60, 7), (60, 49), (59, 30), (31, 2), (32, 3), (33, 5)]:
            self.check(banned(1, period, 0, ahead), period - 1)

    def test_networks_by_chance(self):
        chance = random.Random(231)
        found = {}
        for _ in range(700):
            step = chance.choice([1, 2])
            parts = some_parts(chance, step, step * chance.choice([2, 3, 4, 5, 6]))
            table = table_for(parts)
            many = longest_chain(table)
            found[many] = found.get(many, 0) + 1
            if many is not None or found[many] < 20:
                self.check(parts, many)
                self.assertEqual(table_for(linked([parts] * 6)) is None, many is not None and many < 6)
        self.assertGreater(found[None], 100)
        self.assertGreater(sum(found.values()) - found[None], 10)

    def test_the_period_of_the_table_alone_counts(self):
        parts = banned(1, 3, 0, 1)
        self.assertEqual(period_of(parts[0]), 3)
        longer = (parts[0] + [("w", 0, 60)], parts[1])
        self.check(longer, 2)


if __name__ == "__main__":
    unittest.main()
