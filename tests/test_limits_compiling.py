"""Inputs at the limits for compiling, chaining, telling back, exchange and rules that follow."""

import random
import unittest

from roundticks.chaining import chained, glued, longest_chain
from roundticks.compiling import barred, compiled
from roundticks.completing import completed, pinned
from roundticks.elimination import table_of
from roundticks.errors import UnknownName
from roundticks.exchange import can_exchange, judge_surrounding, surrounding
from roundticks.flat import flat, flat_size
from roundticks.following import follows, greatest_least, kernel, needless
from roundticks.leading import jumps
from roundticks.leads import Lead
from roundticks.networks import Network, with_least, with_points, with_rules, without_rule
from roundticks.programs import Program, with_module
from roundticks.rising import has_timetable
from roundticks.tables import Table, are_alike_tables
from roundticks.tellingback import module_back, told_back
from tests.case import Case, nested
from tests.oracle import is_timetable, risen

GREAT = 10 ** 30
STEPS = (1, 2, 3, 4, 5, 6, 10, 12, 15, 20, 30, 60)


def tight_network(seed, steps=STEPS, far=0, many=120):
    """A network of 40 points and many rules with a timetable, and with the period 60."""
    chance = random.Random(seed)
    points = [(f"p{k}", chance.randint(-60, 60) + k % 3 * far, chance.choice(steps)) for k in range(39)] + [("z", 0, 60)]
    at = {name: first + step * chance.randint(-30, 30) for name, first, step in points}
    names = list(at)
    rules = []
    for _ in range(many):
        p, q = chance.choice(names), chance.choice(names)
        rules.append((p, q, at[q] - at[p] - chance.choice([0, 5, 30, 90])))
    return Network(points, rules)


def great_programs():
    """Programs of 12 modules with 30 items each, with chains of very many copies; none is barred, as nothing leads back."""
    chance = random.Random(281)
    names = [f"d{k}" for k in range(6)] + [f"p{k}" for k in range(6)]
    for steps in ((1, 2, 3, 4), (2, 12, 20, 30), (60, 1, 5)):
        modules = []
        for m in range(12):
            clocks = [(steps[0] * chance.randint(-9, 9), steps[0]) for _ in range(9)] + [(k, chance.choice(steps)) for k in range(3)]
            items = [("door" if k < 6 else "point", name, *clock) for k, (name, clock) in enumerate(zip(names, clocks))]
            for used in range(max(0, m - 2), m):
                doors = chance.sample(range(6), 2)
                points = chance.sample(range(9), 6)
                items.append(("use", f"m{used}", tuple((f"d{k}", names[point]) for k, point in enumerate(sorted(points)))))
                items.append(("chain", chance.choice([1, 2, 10 ** 18]), f"m{used}", *[f"d{k}" for k in sorted(doors)], *[names[k] for k in sorted(points[:2])]))
            while len(items) < 30:
                start, end = sorted(chance.sample(range(12), 2))
                items.append(("rule", names[start], names[end], chance.choice([0, 7, -GREAT, GREAT if m == 0 else 5])))
            modules.append((f"m{m}", tuple(items)))
        yield modules


class Compiling(Case):
    def test_12_modules_with_30_items(self):
        for modules in great_programs():
            program = Program(modules)
            self.tells([], barred, program)
            for name, items in modules:
                self.assertEqual(len(items), 30)
                table = compiled(program, name)
                self.assertEqual([door[0] for door in table.doors()], [f"d{k}" for k in range(6)])
                self.assertLessEqual(table.period(), 60)
                if flat_size(program, name) <= 200:
                    self.assertEqual(table, table_of(flat(program, name), [f"d{k}" for k in range(6)]))

    def test_uses_with_6_doors_against_flat_networks(self):
        chance = random.Random(282)
        names = [f"d{k}" for k in range(6)]
        found = []
        for round_of in range(12):
            highest = (8, 0, -8)[round_of % 3]
            modules = []
            for m in range(5):
                items = [("door", name, 0, 2) for name in names] + [("point", f"h{k}", k, chance.choice([1, 3, 4, 5])) for k in range(4)]
                points = [item[1] for item in items]
                while len(items) < 28:
                    items.append(("rule", chance.choice(points), chance.choice(points), chance.randint(-40, highest)))
                for used in range(max(0, m - 1), m):
                    items.append(("use", f"m{used}", tuple(zip(names, chance.sample(names, 6)))))
                    items.append(("chain", chance.randint(1, 5), f"m{used}", *chance.sample(names, 2), *chance.sample(names, 2)))
                modules.append((f"m{m}", tuple(items)))
            program = Program(modules)
            for name, _ in modules:
                if flat_size(program, name) <= 200:
                    network = flat(program, name)
                    table, expected = compiled(program, name), table_of(network, names)
                    self.assertEqual(table is None, expected is None)
                    found.append(table is None)
                    if table is not None:
                        self.assertEqual(table, expected)
        self.assertGreater(min(found.count(True), found.count(False)), 5)

    def test_very_many_copies_of_very_many(self):
        doors = (("door", "a", 0, 1), ("door", "b", 0, 1))
        inner = (*doors, ("point", "h", 7, 60), ("rule", "a", "h", -30), ("rule", "h", "b", 33), ("rule", "b", "a", -200), ("rule", "a", "b", -5))
        modules = [("m0", inner), ("m1", (*doors, ("chain", 10 ** 9, "m0", "a", "b", "a", "b"))), ("m2", (*doors, ("chain", 10 ** 9, "m1", "a", "b", "a", "b"))),
                   ("m3", (*doors, ("chain", 10 ** 18, "m0", "a", "b", "a", "b"))), ("m4", (*doors, ("chain", 10 ** 18, "m0", "b", "a", "b", "a")))]
        program = Program(modules)
        self.assertEqual(barred(program), [])
        self.assertEqual(compiled(program, "m2"), compiled(program, "m3"))
        self.assertEqual(compiled(program, "m4"), compiled(program, "m3"))
        self.assertEqual(len(compiled(program, "m3").lead("a", "b").row()), 60)
        self.assertGreater(len(jumps(compiled(program, "m3").lead("a", "b"))), 0)
        self.assertGreater(compiled(program, "m3").lead("a", "b").at(0), 10 ** 18)

    def test_numbers_of_leads_to_10_to_the_49(self):
        far = 6 * 10 ** 30 + 5
        link = ("link", (("door", "a", GREAT, 7), ("door", "b", -6 * GREAT, 7), ("point", "x", 0, 5), ("rule", "a", "b", far), ("rule", "b", "x", 1), ("rule", "x", "a", -far - 30)))
        user = ("user", (("door", "a", GREAT, 7), ("door", "b", 8 * GREAT, 7), ("chain", 10 ** 18, "link", "a", "b", "a", "b")))
        table = compiled(Program([link, user]), "user")
        # Each copy takes the least multiple of 7 that is at least so far.
        takes = (far + 6) // 7 * 7 * 10 ** 18
        rests = [v for v in range(35) if (v - GREAT) % 7 == 0]
        self.assertEqual(table.lead("a", "b").row(), [v + takes for v in rests])
        self.assertGreater(table.lead("a", "b").at(GREAT), 6 * 10 ** 48)
        self.assertLess(table.lead("b", "a").at(GREAT), -5 * 10 ** 48)

    def test_names_nested_40_deep(self):
        program = Program([("m", ())])
        for wrap in (lambda value: [value], lambda value: (value,), lambda value: {"m": value}):
            value = nested(40, wrap, "m")
            self.refused(UnknownName, {"name": value}, compiled, program, value)


class Chaining(Case):
    def test_all_rests_of_60(self):
        clock = (-GREAT, 1)
        chance = random.Random(283)
        row = [v + GREAT + chance.choice([0, 1]) for v in range(60)]
        row = [max(row[:k + 1]) for k in range(60)]
        back = [v - GREAT - 59 for v in range(60)]
        leads = [(p, p, Lead(clock, clock, 60, list(range(60)))) for p in "pq"] + [("p", "q", Lead(clock, clock, 60, row)), ("q", "p", Lead(clock, clock, 60, back))]
        table = Table([("p", *clock), ("q", *clock)], 60, leads)
        self.assertIs(table.is_closed(), True)
        for many in (10 ** 18, 10 ** 18 - 1, 2 ** 59 + 2 ** 30 + 1):
            found = self.told(chained, table, many)
            at = {v: v for v in range(60)}
            lead = found.lead("p", "q")
            half = chained(table, many // 2)
            rest = chained(table, many - many // 2)
            self.assertEqual(glued(half, rest), found)
            self.assertEqual(len(lead.row()), len(at))
            self.assertGreaterEqual(lead.at(0), many * GREAT)
            self.assertLess(lead.at(0), 10 ** 49)
        self.assertIsNone(longest_chain(table))


class TellingBack(Case):
    def check(self, table):
        """What is told back may be used as any network, and its table is alike."""
        names = [door[0] for door in table.doors()]
        many = sum(len(jumps(table.lead(p, q))) for p in names for q in names if table.lead(p, q) is not None)
        self.assertLessEqual(many, 150)
        network = self.told(told_back, table)
        self.assertLessEqual(len(network.points()), 6 + many)
        self.assertLessEqual(len(network.rules()), 2 * many)
        found = table_of(network, names)
        self.assertTrue(are_alike_tables(found, table))
        self.assertIs(can_exchange(network, network, names), True)
        self.assertIsNone(surrounding(network, network, names))
        numbers = [table.lead(p, p).row()[0] for p in names[:1]]
        self.assertIsNotNone(completed(network, names[:1], numbers))
        self.assertIs(has_timetable(pinned(network, names[:1], numbers)), True)
        kept = kernel(network)
        self.assertTrue(are_alike_tables(table_of(kept, names), table))
        self.assertEqual(needless(kept), [])
        self.assertIsInstance(needless(network), list)
        for p in names[:2]:
            for q in names[:2]:
                self.assertEqual(greatest_least(network, p, q) is None, table.lead(p, q) is None)
        module = module_back(table, "back")
        self.assertTrue(are_alike_tables(compiled(Program([module]), "back"), table))
        return many

    def test_150_jumps(self):
        clock = (0, 1)
        chance = random.Random(284)
        leads = []
        for p in "ab":
            leads.append((p, p, Lead(clock, clock, 60, [v + 1 if v % 2 == 0 else v for v in range(60)])))
        leads.append(("a", "b", Lead(clock, clock, 60, [10 ** 48 + v - v % 2 + 1 for v in range(60)])))
        leads.append(("b", "a", Lead(clock, clock, 60, [-10 ** 48 - 61 + v - v % 2 for v in range(60)])))
        table = Table([("a", 0, 1), ("b", 0, 1)], 60, leads)
        self.assertIs(table.is_closed(), True)
        self.assertEqual(self.check(table), 120)
        network = tight_network(286, (12, 6, 4), many=60)
        names = chance.sample(network.names(), 5)
        table = table_of(network, names)
        self.assertGreater(self.check(table), 60)


class Exchange(Case):
    def test_40_points_120_rules_and_6_doors(self):
        chance = random.Random(287)
        counted = [0, 0]
        for seed in range(4):
            one = tight_network(seed, far=chance.choice([0, 10 ** 29]))
            doors = chance.sample(one.names(), 6)
            for number in chance.sample(range(120), 4):
                start, end, least = one.rules()[number]
                for other in (with_least(one, number, least + chance.choice([-70, 1, -1])), without_rule(one, number), with_least(one, number, GREAT)):
                    alike = self.told(can_exchange, one, other, doors)
                    counted[alike] += 1
                    for first, second in ((one, other), (other, one)):
                        paper = self.told(surrounding, first, second, doors)
                        self.assertEqual(paper is None, alike)
                        if paper is not None:
                            self.tells(True, judge_surrounding, first, second, doors, paper)
                            # What the paper says is so, in the networks with the point.
                            if paper[0] == "point":
                                _, k, v, step, p, q, c = paper
                                both = [with_rules(with_points(network, [("w", v, step)]), [("w", p, 0), (q, "w", -c)]) for network in (first, second)]
                                self.assertEqual([has_timetable(network) for network in both], [k == 0, k == 1])
        self.assertGreater(min(counted), 5)

    def test_steps_to_60_that_are_no_multiples(self):
        one = tight_network(21)
        start, end, least = one.rules()[0]
        other = without_rule(one, 0)
        for doors in ([start, end], one.names()[:6]):
            for step in (1, 7, 59, 60):
                for c in (-10 ** 39, least - 1, least, least + 1, 10 ** 39):
                    value = ("point", 1, -GREAT, step, doors[0], doors[1], c)
                    self.assertIsInstance(self.told(judge_surrounding, one, other, doors, value), bool)

    def test_values_nested_40_deep(self):
        network = tight_network(22)
        for wrap in (lambda value: [value], lambda value: (value,), lambda value: {"a": value}, lambda value: ("point", value), lambda value: (value, 0)):
            value = nested(40, wrap, "bare")
            for told in (value, ("bare", value), ("point", 0, value, 1, "z", "z", 0), ("point", 0, 0, 1, value, "z", 0), ("point", value, 0, 1, "z", "z", 0)):
                self.tells(False, judge_surrounding, network, network, ["z"], told)


class Following(Case):
    def test_40_points_and_120_rules(self):
        for seed, steps, far in [(31, STEPS, 0), (32, (1, 2), 10 ** 29), (33, (60, 30), 0), (34, (1,), 0)]:
            network = tight_network(seed, steps, far)
            told = needless(network)
            kept = kernel(network)
            self.assertEqual(needless(kept), [])
            self.assertGreater(len(told), 0)
            self.assertLess(len(kept.rules()), 120)
            for k in range(0, 120, 11):
                start, end, least = network.rules()[k]
                without = without_rule(network, k)
                against = with_rules(without, [(end, start, 1 - least)])
                self.assertEqual(k in told, risen(against.points(), against.rules(), [0] * 40) is None)
                greatest = greatest_least(network, start, end)
                self.assertGreaterEqual(greatest, least)
                self.tells(True, follows, network, (start, end, greatest))
                self.tells(False, follows, network, (start, end, greatest + 1))
                numbers = completed(network, [], [])
                self.assertTrue(is_timetable(network.points(), network.rules(), numbers))

    def test_without_a_timetable(self):
        network = with_rules(tight_network(35), [("p0", "p0", 1)])
        self.assertEqual(kernel(network).rules(), [("p0", "p0", 1)])
        self.assertEqual(needless(network), list(range(120)))


class Replacing(Case):
    def test_each_of_12_modules(self):
        doors = (("door", "a", 0, 2), ("door", "b", 0, 2))
        modules = [("m0", (*doors, ("point", "h", 1, 3), ("rule", "a", "h", 1), ("rule", "h", "b", 1), ("rule", "b", "a", -9)))]
        for m in range(1, 12):
            modules.append((f"m{m}", (*doors, ("point", "c", 0, 2), ("point", "h", m, 5), ("use", f"m{m - 1}", (("a", "a"), ("b", "c"))), ("rule", "c", "h", 0),
                                      ("rule", "h", "b", 0), ("chain", m, f"m{m - 1}", "a", "b", "c", "b"))))
        program = Program(modules)
        self.assertEqual(barred(program), [])
        for m in (0, 3, 11):
            other = with_module(program, module_back(compiled(program, f"m{m}"), f"m{m}"))
            self.assertEqual(barred(other), [])
            for name in program.names():
                self.assertTrue(are_alike_tables(compiled(program, name), compiled(other, name)))


if __name__ == "__main__":
    unittest.main()
