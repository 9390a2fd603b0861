"""Tables of modules and which modules are barred (S7.1), against rises in their flat networks."""

import random
import unittest

from roundticks.compiling import barred, compiled
from roundticks.errors import UnknownName
from roundticks.programs import Program
from roundticks.tables import Table
from tests.case import LEG, TRIP, Case, anything, nested, risen_table
from tests.test_flat import flattened

DOORS = (("door", "a", 0, 2), ("door", "b", 0, 2))
# Two doors that can be no odd number apart.
ODD = ("odd", (("door", "p", 0, 2), ("door", "q", 0, 2), ("rule", "p", "q", 3), ("rule", "q", "p", -3)))
# Each use of it rounds up to 1 more than a multiple of 3, and then to an even number.
ROUNDS = ("rounds", (("door", "p", 0, 2), ("point", "h", 1, 3), ("door", "q", 4, 2), ("rule", "p", "h", 0), ("rule", "h", "q", 0)))


def doors_of(modules, name):
    return [item[1] for item in dict(modules)[name] if item[0] == "door"]


class CompiledCase(Case):
    def check(self, modules):
        """All modules of a program have the tables of their flat networks; returns the names of the barred ones."""
        program = Program(modules)
        found = []
        for name, _ in modules:
            table = risen_table(*flattened(modules, name), doors_of(modules, name))
            self.tells(table, compiled, program, name)
            if table is None:
                found.append(name)
            else:
                self.assertIs(type(table), Table)
                self.assertIs(table.is_closed(), True)
        self.tells(found, barred, program)
        return found

    def rows(self, modules, name):
        """The rows of the table of a module."""
        table = compiled(Program(modules), name)
        names = [door[0] for door in table.doors()]
        leads = {p + q: table.lead(p, q) for p in names for q in names}
        return {pair: None if lead is None else lead.row() for pair, lead in leads.items()}


class Examples(CompiledCase):
    def test_the_example(self):
        self.assertEqual(self.check([LEG, TRIP]), [])
        self.assertEqual(self.rows([LEG, TRIP], "leg"), {"pp": [0, 2, 4], "pq": [2, 6, 8], "qp": [-6, -4, -2], "qq": [0, 2, 4]})
        self.assertEqual(self.rows([LEG, TRIP], "trip"), {"aa": [0, 2, 4]})
        two = ("two", (*DOORS, *TRIP[1][2:]))
        self.assertEqual(self.check([LEG, two]), [])
        self.assertEqual(self.rows([LEG, two], "two")["ab"], [6, 8, 12])
        many = ("many", (*DOORS, ("chain", 10 ** 18, "leg", "p", "q", "a", "b")))
        self.assertEqual(self.rows([LEG, many], "many")["ab"], [3 * 10 ** 18, 3 * 10 ** 18 + 2, 3 * 10 ** 18 + 6])

    def test_a_barred_module(self):
        self.assertEqual(self.check([ODD]), ["odd"])
        items = dict([ODD])["odd"]
        self.assertEqual(self.check([("even", items[:3] + (("rule", "q", "p", -4),))]), [])

    def test_the_example_of_a_store(self):
        for least, expected in [(-3, ["trip"]), (-4, []), (-7, [])]:
            leg = ("leg", LEG[1][:5] + (("rule", "q", "p", least),))
            self.assertEqual(self.check([leg, TRIP]), expected)
        # With -3 p must be a multiple of 6.
        table = compiled(Program([("leg", LEG[1][:5] + (("rule", "q", "p", -3),))]), "leg")
        self.assertEqual(table.lead("p", "p").row(), [0, 6, 6])


class Doors(CompiledCase):
    def test_modules_without_doors_and_without_items(self):
        bare = ("bare", ())
        hidden = ("hidden", (("point", "a", 0, 4), ("point", "b", 0, 6), ("rule", "a", "b", 1)))
        user = ("user", (*DOORS, ("use", "bare", ()), ("use", "hidden", ()), ("rule", "a", "b", 1)))
        self.assertEqual(self.check([bare, hidden, user]), [])
        program = Program([bare, hidden, user])
        self.tells(Table([], 1, []), compiled, program, "bare")
        self.tells(Table([], 12, []), compiled, program, "hidden")
        self.assertEqual(compiled(program, "user").period(), 12)

    def test_the_doors_stand_in_order(self):
        rules = (("rule", "a", "b", 3), ("rule", "b", "c", 0), ("rule", "c", "a", -9))
        doors = {name: ("door", name, first, step) for name, first, step in [("a", 5, 2), ("b", -3, 4), ("c", 7, 3)]}
        for order in ("abc", "cab", "bca", "cba"):
            items = (*rules[:1], *[doors[name] for name in order], *rules[1:])
            self.assertEqual(self.check([("m", items)]), [])
            self.assertEqual([door[0] for door in compiled(Program([("m", items)]), "m").doors()], list(order))

    def test_the_clocks_are_told_as_the_module_tells_them(self):
        items = (("door", "p", 7, 2), ("door", "q", -40, 3), ("rule", "p", "q", 1), ("rule", "q", "p", -9))
        user = ("user", (("door", "q", 2, 3), ("door", "p", -1, 2), ("use", "m", (("q", "q"), ("p", "p")))))
        self.assertEqual(self.check([("m", items), user]), [])
        table = compiled(Program([("m", items), user]), "user")
        self.assertEqual((table.lead("p", "q").start(), table.lead("p", "q").end()), ((-1, 2), (2, 3)))

    def test_points_that_no_rule_touches(self):
        items = (("point", "x", 3, 5), ("door", "a", 1, 4), ("door", "b", 0, 1))
        self.assertEqual(self.check([("m", items)]), [])
        table = compiled(Program([("m", items)]), "m")
        self.assertEqual(table.period(), 20)
        self.assertIsNone(table.lead("a", "b"))
        self.assertEqual(table.lead("a", "a").row(), [1, 5, 9, 13, 17])

    def test_the_period_has_the_steps_of_hidden_points(self):
        inner = ("inner", (*DOORS, ("point", "x", 0, 3), ("rule", "a", "b", 1)))
        untouched = ("untouched", (("door", "d", 0, 2), ("use", "inner", (("a", "d"), ("b", "e"))), ("point", "e", 0, 2)))
        chain = ("chain", (*DOORS, ("chain", 3, "three", "a", "b", "a", "b"), ("rule", "a", "b", 1)))
        three = ("three", (*DOORS, ("door", "c", 0, 5), ("rule", "a", "c", 1), ("rule", "c", "b", 1)))
        modules = [inner, untouched, three, chain]
        self.assertEqual(self.check(modules), [])
        periods = [compiled(Program(modules), name).period() for name, _ in modules]
        self.assertEqual(periods, [6, 6, 10, 10])


class Uses(CompiledCase):
    def test_uses_and_uses_of_uses(self):
        one = ("one", (*DOORS, ("use", "leg", (("p", "a"), ("q", "b"))), ("rule", "a", "b", 5)))
        back = ("back", (*DOORS, ("use", "one", (("b", "a"), ("a", "c"))), ("point", "c", 8, 2), ("use", "leg", (("q", "b"), ("p", "c")))))
        three = ("three", (*DOORS, ("use", "back", (("a", "a"), ("b", "b"))), ("use", "one", (("a", "a"), ("b", "c"))),
                           ("point", "c", 0, 2), ("point", "h", 0, 5), ("rule", "c", "h", 0), ("rule", "h", "b", -20)))
        self.assertEqual(self.check([LEG, one, back, three]), [])
        self.assertIsNotNone(compiled(Program([LEG, one, back, three]), "back").lead("a", "b"))

    def test_several_uses_of_one_module(self):
        uses = [("use", "leg", (("p", p), ("q", q))) for p, q in ("ac", "cb", "ab")]
        self.assertEqual(self.check([LEG, ("m", (*DOORS, ("point", "c", 0, 2), *uses))]), [])
        # The two ways from a to b add up to rules in both directions, for which there is no room.
        narrow = ("narrow", LEG[1][:5] + (("rule", "q", "p", -4),))
        self.assertEqual(self.check([narrow, ("m", (*DOORS, *[("use", "narrow", (("p", p), ("q", q))) for p, q in ("ab", "ba")]))]), ["m"])

    def test_two_doors_joined_at_one_point(self):
        self.assertEqual(self.check([LEG, ("m", (("door", "a", 0, 2), ("use", "leg", (("p", "a"), ("q", "a")))))]), ["m"])
        loose = ("loose", LEG[1][:3] + (("rule", "p", "h", -1), ("rule", "h", "q", 0), ("rule", "q", "p", -7)))
        module = ("m", (("door", "a", 4, 2), ("use", "loose", (("p", "a"), ("q", "a")))))
        self.assertEqual(self.check([loose, module]), [])
        self.assertEqual(self.rows([loose, module], "m")["aa"], [2, 2, 4])

    def test_rules_beside_uses(self):
        for least, expected in [(-12, []), (-8, []), (-6, []), (-5, ["trip"]), (0, ["trip"])]:
            two = ("trip", (("door", "a", 0, 2), ("point", "b", 4, 2), ("use", "leg", (("p", "a"), ("q", "m"))), ("point", "m", 0, 2),
                            ("use", "leg", (("p", "m"), ("q", "b"))), ("rule", "b", "a", least)))
            self.assertEqual(self.check([LEG, two]), expected)


class Chains(CompiledCase):
    def test_chains_of_few_copies(self):
        for used in (LEG, ROUNDS):
            for many in range(1, 8):
                self.assertEqual(self.check([used, ("m", (*DOORS, ("chain", many, used[0], "p", "q", "a", "b")))]), [])
                self.assertEqual(self.check([used, ("m", (*DOORS, ("chain", many, used[0], "q", "p", "a", "b")))]), [])

    def test_chains_of_a_module_with_other_doors_and_its_doors_in_any_order(self):
        for order in ("cpq", "qpc", "pqc", "qcp"):
            doors = {"p": ("door", "p", 0, 2), "q": ("door", "q", 6, 2), "c": ("door", "c", 1, 3)}
            used = ("m", (*[doors[name] for name in order], ("rule", "p", "c", 1), ("rule", "c", "q", 1), ("rule", "q", "p", -9)))
            for into, out in ("pq", "qp"):
                self.assertEqual(self.check([used, ("n", (*DOORS, ("chain", 3, "m", into, out, "b", "a")))]), [])
        self.assertEqual(self.rows([used, ("n", (*DOORS, ("chain", 3, "m", "p", "q", "a", "b")))], "n")["ab"], [8, 12, 14])

    def test_chains_beside_rules_and_chains(self):
        for least, expected in [(-14, []), (-12, []), (-8, []), (-7, ["m"]), (-6, ["m"])]:
            module = ("m", (*DOORS, ("chain", 3, "leg", "p", "q", "a", "b"), ("rule", "b", "a", least)))
            self.assertEqual(self.check([LEG, module]), expected)
        module = ("m", (*DOORS, ("chain", 2, "leg", "p", "q", "a", "c"), ("point", "c", -2, 2), ("chain", 3, "rounds", "p", "q", "c", "b"),
                        ("use", "leg", (("p", "a"), ("q", "c")))))
        self.assertEqual(self.check([LEG, ROUNDS, module]), [])

    def test_rounds(self):
        loose = ("loose", LEG[1][:3] + (("rule", "p", "h", -1), ("rule", "h", "q", 0), ("rule", "q", "p", -7)))
        for many in range(1, 5):
            for used in (LEG, loose, ROUNDS):
                module = ("m", (("door", "a", 0, 2), ("chain", many, used[0], "p", "q", "a", "a")))
                self.assertEqual(self.check([used, module]), ["m"] if used == LEG else [])
        program = [loose, ("m", (("door", "a", 0, 2), ("chain", 10 ** 18, "loose", "p", "q", "a", "a")))]
        self.assertEqual(self.rows(program, "m"), {"aa": [2, 2, 4]})
        self.assertEqual(self.rows([ROUNDS, module], "m"), {"aa": [4, 4, 4]})

    def test_very_many_copies_eleven_modules_deep(self):
        flat_ones = ("m0", (*DOORS, ("point", "h", 2, 3), ("rule", "a", "h", 0), ("rule", "h", "b", -1), ("rule", "b", "a", -8)))
        modules = [flat_ones]
        for k in range(1, 12):
            modules.append((f"m{k}", (*DOORS, ("chain", 10 ** 18, f"m{k - 1}", "a", "b", "a", "b"), ("rule", "b", "a", -6))))
        # Each number rounds up to one that stays where it is: so however many copies there are, it is the same.
        self.assertEqual(self.check(modules[:1] + [("m1", (*DOORS, ("chain", 5, "m0", "a", "b", "a", "b"), ("rule", "b", "a", -6)))]), [])
        row = self.rows(modules[:1], "m0")["ab"]
        self.assertEqual([row[v // 2 % 3] + v // 6 * 6 for v in row], row)
        for k in range(12):
            self.assertEqual(self.rows(modules, f"m{k}")["ab"], row)
        self.assertEqual(barred(Program(modules)), [])

    def test_numbers_grow_with_the_copies(self):
        modules = [LEG, ("m1", (*DOORS, ("chain", 10 ** 18, "leg", "p", "q", "a", "b"))),
                   ("m2", (*DOORS, ("chain", 10 ** 18, "m1", "a", "b", "a", "b"), ("rule", "b", "a", -3 * 10 ** 36 - 2))),
                   ("m3", (*DOORS, ("chain", 10 ** 12 + 1, "m2", "a", "b", "b", "a")))]
        self.assertEqual(self.rows(modules, "m1")["ab"], [3 * 10 ** 18 + v for v in (0, 2, 6)])
        self.assertEqual(self.rows(modules, "m2")["ab"], [3 * 10 ** 36 + v for v in (0, 2, 6)])
        self.assertEqual(self.rows(modules, "m2")["ba"], [-3 * 10 ** 36 - 2 + v for v in (0, 2, 4)])
        self.assertEqual(self.rows(modules, "m3")["ba"], [(3 * 10 ** 36) * (10 ** 12 + 1) + v for v in (0, 2, 6)])

    def test_so_many_copies_and_no_more(self):
        # 10 ** 18 copies take 10 ** 18 and 2 at least from here to there, and as much is allowed back.
        step = ("step", (*DOORS, ("rule", "a", "b", 2)))
        for many, least, expected in [(10 ** 18, -2 * 10 ** 18, []), (10 ** 18, 2 - 2 * 10 ** 18, ["m"]), (10 ** 18 - 1, 2 - 2 * 10 ** 18, []),
                                      (7, -14, []), (7, -13, ["m"]), (6, -13, [])]:
            program = Program([step, ("m", (*DOORS, ("chain", many, "step", "a", "b", "a", "b"), ("rule", "b", "a", least)))])
            self.tells(expected, barred, program)


class Barred(CompiledCase):
    def test_what_uses_a_barred_module_is_barred(self):
        user = ("user", (("point", "a", 0, 2), ("point", "b", 0, 2), ("use", "odd", (("p", "a"), ("q", "b")))))
        above = ("above", (("use", "user", ()),))
        chain = ("chain", (*DOORS, ("chain", 1, "odd", "p", "q", "a", "b")))
        round_chain = ("round", (("door", "a", 0, 2), ("chain", 10 ** 18, "odd", "p", "q", "a", "a")))
        beside = ("beside", (*DOORS, ("chain", 1, "leg", "p", "q", "a", "b"), ("rule", "a", "a", 0)))
        through = ("through", (*DOORS, ("chain", 1, "chain", "a", "b", "a", "b")))
        modules = [LEG, ODD, user, beside, above, chain, through]
        self.assertEqual(self.check(modules), ["odd", "user", "above", "chain", "through"])
        program = Program(modules + [round_chain])
        self.tells(["odd", "user", "above", "chain", "through", "round"], barred, program)
        self.tells(None, compiled, program, "round")
        self.tells([], barred, Program([]))
        self.tells([], barred, Program([LEG, ROUNDS]))

    def test_a_rule_from_a_point_to_itself(self):
        self.assertEqual(self.check([("m", (("point", "a", 0, 5), ("rule", "a", "a", 1)))]), ["m"])
        self.assertEqual(self.check([("m", (("point", "a", 0, 5), ("rule", "a", "a", 0), ("rule", "a", "a", -7)))]), [])

    def test_a_module_of_hidden_points_alone(self):
        hidden = (("point", "a", 0, 2), ("point", "b", 0, 2), ("rule", "a", "b", 1), ("rule", "b", "a", -1))
        self.assertEqual(self.check([("m", hidden), ("n", (("use", "m", ()),))]), ["m", "n"])

    def test_a_barred_module_beside_does_not_matter(self):
        program = Program([ODD, LEG, TRIP])
        self.assertEqual(compiled(program, "trip"), compiled(Program([LEG, TRIP]), "trip"))


class Names(CompiledCase):
    def test_names_that_are_none(self):
        program = Program([LEG, ODD])
        for value in [*anything(), "p", "trip", "Leg", "leg ", ["leg"], ("leg",), {"leg": 0}, nested(40, lambda inner: [inner], "leg")]:
            self.refused(UnknownName, {"name": value}, compiled, program, value)
        self.refused(UnknownName, {"name": "leg"}, compiled, Program([]), "leg")


class Chance(CompiledCase):
    def module(self, chance, k, earlier):
        """Some module; earlier are the names of those that it may use, all with the doors p, q and r."""
        items = [("door", name, chance.choice([0, 6, -3]) * step, step) for name, step in [("p", 2), ("q", 2), ("r", 3)]]
        if chance.random() < 0.6:
            items.append(("point", "h", chance.randint(0, 3), chance.choice([1, 2, 3, 4])))
        names = [item[1] for item in items]
        clocks = {item[1]: item[3] for item in items}
        for _ in range(chance.randint(1, 4)):
            items.append(("rule", chance.choice(names), chance.choice(names), chance.randint(-9, 2)))
        even = [name for name in "pq"]
        if earlier and chance.random() < 0.7:
            items.append(("use", chance.choice(earlier), (("r", "r"), ("q", chance.choice(even)), ("p", chance.choice(even)))))
        if earlier and chance.random() < 0.7:
            into, out = chance.choice(["pq", "qp"])
            items.append(("chain", chance.randint(1, 4), chance.choice(earlier), into, out, chance.choice(even), chance.choice(even)))
        self.assertEqual(clocks["r"], 3)
        chance.shuffle(items)
        return (f"m{k}", tuple(items))

    def test_programs_by_chance(self):
        chance = random.Random(201)
        counted = [0, 0]
        for _ in range(60):
            modules = []
            for k in range(4):
                modules.append(self.module(chance, k, [name for name, _ in modules]))
            if max(len(flattened(modules, name)[0]) for name, _ in modules) > 40:
                continue
            many = len(self.check(modules))
            counted[0] += many
            counted[1] += 4 - many
        self.assertGreater(min(counted), 40)


if __name__ == "__main__":
    unittest.main()
