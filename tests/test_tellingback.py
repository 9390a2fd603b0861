"""Tables told back as networks and modules (S7.4), and modules that are replaced by them (S7.6)."""

import random
import unittest

from roundticks.chaining import glued
from roundticks.compiling import barred, compiled
from roundticks.leads import Lead
from roundticks.networks import Network
from roundticks.programs import Program, with_module
from roundticks.tables import Table, are_alike_tables
from roundticks.tellingback import module_back, told_back
from roundticks.words import is_word
from tests.case import LEG, TRIP, Case, risen_table, sample, stay
from tests.oracle import some_networks
from tests.test_compiling import CompiledCase


def jumps_in(lead):
    """How many jumps a lead has."""
    row = lead.row()
    return sum(value > ahead for ahead, value in zip([row[-1] - lead.period()] + row, row))


def leads_of(table):
    names = [door[0] for door in table.doors()]
    return {(p, q): table.lead(p, q) for p in names for q in names if table.lead(p, q) is not None}


class BackCase(Case):
    def check(self, table):
        """The network and the module of a table are as S7.4 and the interface say."""
        self.assertIs(table.is_closed(), True)
        doors, leads = table.doors(), leads_of(table)
        network = self.told(told_back, table)
        self.assertIs(type(network), Network)
        points, rules = network.points(), network.rules()
        self.assertEqual(points[:len(doors)], doors)
        many = sum(jumps_in(lead) for lead in leads.values())
        self.assertLessEqual(len(points), len(doors) + many)
        self.assertLessEqual(len(rules), 2 * many)
        self.assertEqual(table.period() % network.period(), 0)
        self.assertEqual(len({point[0] for point in points}), len(points))
        self.assertTrue(all(is_word(name) for name in network.names()))
        # The very leads between the doors.
        found = risen_table(points, rules, [door[0] for door in doors])
        self.assertEqual(found.doors(), doors)
        self.assertTrue(are_alike_tables(found, table))
        times = table.period() // found.period()
        self.assertEqual(list(leads_of(found)), list(leads))
        for pair, lead in leads.items():
            row = found.lead(*pair).row()
            self.assertEqual([value + k * found.period() for k in range(times) for value in row], lead.row())
        for name in ("m", "point"):
            module = self.told(module_back, table, name)
            items = [("door", *point) for point in doors] + [("point", *point) for point in points[len(doors):]] + [("rule", *rule) for rule in rules]
            self.assertEqual(module, (name, tuple(items)))
            self.assertTrue(are_alike_tables(compiled(Program([module]), name), table))
        return network


class Examples(BackCase):
    def test_the_table_of_the_example(self):
        table = compiled(Program([LEG]), "leg")
        network = self.check(table)
        self.assertEqual(risen_table(network.points(), network.rules(), ["p", "q"]), table)
        self.check(compiled(Program([LEG, TRIP]), "trip"))
        self.check(risen_table(sample().points(), sample().rules(), ["a", "c"]))

    def test_no_doors_and_no_leads_between_doors(self):
        for period in (1, 7, 60):
            self.assertEqual(self.check(Table([], period, [])), Network([], []))
        doors = [("a", 3, 2), ("b", 0, 3)]
        table = Table(doors, 12, [("b", "b", stay((0, 3), 12)), ("a", "a", stay((1, 2), 12))])
        self.assertEqual([door for door in self.check(table).points()[:2]], doors)
        bound = Table(doors, 12, [("b", "b", stay((0, 3), 12)), ("a", "a", Lead((1, 2), (1, 2), 12, [3, 3, 7, 7, 11, 11]))])
        self.check(bound)

    def test_one_direction_and_both(self):
        doors = [("a", 0, 2), ("b", 1, 2)]
        still = [("a", "a", stay((0, 2), 6)), ("b", "b", stay((1, 2), 6))]
        forward = ("a", "b", Lead((0, 2), (1, 2), 6, [1, 1, 7]))
        backward = ("b", "a", Lead((1, 2), (0, 2), 6, [-10 ** 30 - 4, -10 ** 30 - 2, -10 ** 30]))
        self.check(Table(doors, 6, still + [forward]))
        self.check(Table(doors, 6, still + [backward]))
        self.check(Table(doors, 6, still + [forward, backward]))

    def test_leads_with_one_jump(self):
        clock = (0, 1)
        for period in (1, 2, 60):
            for v in {0, 1, period - 1} & set(range(period)):
                row = [v if k <= v else v + period for k in range(period)]
                lead = Lead(clock, clock, period, row)
                self.check(Table([("a", 7, 1)], period, [("a", "a", lead)]))
                self.check(Table([("a", 7, 1), ("b", -7, 1)], period, [(p, q, lead) for p in "ab" for q in "ab"]))

    def test_jumps_at_which_the_lead_stays_and_others(self):
        lead = Lead((0, 1), (0, 1), 6, [2, 2, 2, 3, 5, 5])
        self.check(Table([("a", 0, 1)], 6, [("a", "a", lead)]))
        # Between two doors what stays is told, too.
        self.check(Table([("a", 0, 1), ("b", 0, 1)], 6, [(p, q, stay((0, 1), 6)) for p in "ab" for q in "ab"]))

    def test_doors_on_clocks_of_their_own(self):
        for points, rules in [
            ([("a", 10 ** 30 + 5, 4), ("b", -10 ** 30, 6), ("c", 1, 3)], [("a", "b", -2 * 10 ** 30), ("b", "c", 3), ("c", "a", 9)]),
            ([("a", -7, 5), ("b", 8, 2), ("c", 1, 1)], [("a", "b", 3), ("b", "a", -9), ("b", "c", 1), ("c", "b", -6)]),
        ]:
            self.check(risen_table(points, rules, ["a", "b"]))
            self.check(risen_table(points, rules, ["b", "c", "a"]))

    def test_doors_with_odd_names(self):
        for letter in "abcdefghijklmnopqrstuvwxyz":
            doors = [(letter + str(k), k, 1) for k in range(3)] + [(letter, 0, 1)]
            lead = Lead((0, 1), (0, 1), 3, [0, 3, 3])
            self.check(Table(doors, 3, [(p[0], q[0], lead) for p in doors for q in doors]))
        lead = Lead((0, 1), (0, 1), 2, [1, 1])
        for names in (["point", "door", "rule", "abcdefghijkl"], ["j", "x", "z", "w"], ["p0", "x1", "j2", "z3"], ["a1", "a10", "a0", "b1"]):
            self.check(Table([(name, 0, 1) for name in names], 2, [(p, q, lead) for p in names for q in names]))

    def test_networks_by_chance(self):
        chance = random.Random(241)
        checked = 0
        for points, rules in some_networks(242, 150):
            names = [point[0] for point in points]
            doors = chance.sample(names, chance.randint(0, len(names)))
            table = risen_table(points, rules, doors)
            if table is not None:
                self.check(table)
                checked += 1
        self.assertGreater(checked, 60)


class Replaced(CompiledCase):
    def replaced(self, modules, name):
        """Each module is replaced by what is told back of its table: all others stay as they were."""
        program = Program(modules)
        table = compiled(program, name)
        other = with_module(program, module_back(table, name))
        self.tells(barred(program), barred, other)
        for own, _ in modules:
            before, after = compiled(program, own), compiled(other, own)
            self.assertEqual(before is None, after is None)
            if before is not None:
                self.assertTrue(are_alike_tables(before, after))
        return other

    def test_the_example(self):
        narrow = ("narrow", (("door", "a", 0, 2), ("use", "leg", (("p", "a"), ("q", "b"))), ("point", "b", 2, 2), ("rule", "b", "a", -2)))
        barred_one = ("none", (("door", "a", 0, 2), ("door", "b", 0, 2), ("chain", 3, "leg", "p", "q", "a", "b"), ("rule", "b", "a", -7)))
        modules = [LEG, narrow, barred_one, TRIP]
        program = self.replaced(modules, "leg")
        self.assertEqual(program.names(), ["leg", "narrow", "none", "trip"])
        self.assertEqual(self.check(program.modules()), ["none"])
        for name in ("narrow", "trip"):
            self.replaced(modules, name)

    def test_a_table_that_was_glued(self):
        table = compiled(Program([LEG]), "leg")
        two = module_back(glued(table, table), "two")
        chain = ("chain", (("door", "p", 0, 2), ("door", "q", 0, 2), ("chain", 2, "leg", "p", "q", "p", "q")))
        program = Program([LEG, chain, two])
        self.assertTrue(are_alike_tables(compiled(program, "chain"), compiled(program, "two")))

    def test_a_barred_module_by_another_one(self):
        doors = (("door", "p", 0, 2), ("door", "q", 0, 2))
        one = ("odd", (*doors, ("rule", "p", "q", 3), ("rule", "q", "p", -3)))
        other = ("odd", (*doors, ("point", "x", 0, 1), ("rule", "x", "x", 1)))
        users = [("user", (*doors, ("chain", 1, "odd", "p", "q", "p", "q"))), LEG]
        for odd in (one, other):
            self.assertEqual(self.check([odd, *users]), ["odd", "user"])

    def test_programs_by_chance(self):
        chance = random.Random(251)
        replaced = 0
        for points, rules in some_networks(252, 60, steps=(2,), most=3):
            hidden = [("h", chance.randint(0, 5), chance.choice([1, 3])), ("g", chance.randint(0, 5), 4)]
            names = [name for name, _, _ in points]
            more = [(chance.choice(names), "h", -3), ("h", chance.choice(names), -3), ("g", chance.choice(names), -5)]
            doors = points[:2]
            items = [("door" if point in doors else "point", *point) for point in points + hidden] + [("rule", *rule) for rule in rules + more]
            joins = tuple((name, "a") for name, _, _ in doors)
            clock = doors[0][1:]
            alike = [(name, *clock) for name in "ab"]
            if any((first - clock[0]) % 2 for _, first, _ in doors):
                continue
            modules = [("m", tuple(items)), ("user", (*[("door", *point) for point in alike], ("use", "m", joins), ("rule", "b", "a", -3)))]
            if len(doors) == 2:
                modules.append(("chain", (*[("door", *point) for point in alike], ("chain", 3, "m", doors[0][0], doors[1][0], "a", "b"), ("rule", "b", "a", -9))))
            if compiled(Program(modules), "m") is not None:
                self.replaced(modules, "m")
                replaced += 1
        self.assertGreater(replaced, 10)


if __name__ == "__main__":
    unittest.main()
