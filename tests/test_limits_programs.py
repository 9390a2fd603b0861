"""Inputs at the limits for completing, programs, their texts and flat networks."""

import random
import unittest

from roundticks.completing import can_complete, completed, door_numbers_fit, pinned, why_not
from roundticks.elimination import table_of
from roundticks.errors import BadProgram, BadText, TooGreat, UnknownName
from roundticks.flat import flat, flat_size
from roundticks.networks import Network
from roundticks.programs import Program, with_module, without_module
from roundticks.programtexts import program_text, read_program
from roundticks.rising import earliest, find_ring, has_timetable, latest
from tests.case import LEG, Case, nested
from tests.oracle import gains, is_timetable
from tests.test_flat import flattened
from tests.test_limits_leads import great_networks
from tests.test_programtexts import wrong_place

GREAT = 10 ** 30


def great_modules():
    """12 modules with 30 items each, of all sorts, each of which uses some of the earlier ones."""
    chance = random.Random(101)
    modules = []
    for m in range(12):
        names = [f"d{k}" for k in range(6)] + [f"p{k}" for k in range(6)]
        items = [("door" if name[0] == "d" else "point", name, (-1) ** m * (GREAT - 2 * k), 2) for k, name in enumerate(names)]
        for k in range(max(0, m - 2), m):
            doors = [f"d{j}" for j in range(6)]
            items.append(("use", f"m{k}", tuple((door, chance.choice(names)) for door in chance.sample(doors, 6))))
            items.append(("chain", chance.choice([1, 2, 10 ** 18]), f"m{k}", *chance.sample(doors, 2), *chance.choices(names, k=2)))
        while len(items) < 30:
            items.append(("rule", chance.choice(names), chance.choice(names), chance.choice([-GREAT, GREAT, 0, -7])))
        chance.shuffle(items)
        modules.append((f"m{m}", tuple(items)))
    return modules


class Completing(Case):
    def test_40_points_and_120_rules(self):
        chance = random.Random(102)
        completed_ones = 0
        for points, rules in great_networks():
            network, names = Network(points, rules), [point[0] for point in points]
            numbers = [first for _, first, _ in points]
            if find_ring(network) is not None:
                for many in (0, 1, 40):
                    told = names[:many]
                    self.assertIs(can_complete(network, told, numbers[:many]), False)
                    self.assertIsNone(completed(network, told, numbers[:many]))
                    word, ring = why_not(network, told, numbers[:many])
                    self.assertEqual(word, "ring")
                    self.assertTrue(gains(points, rules, ring))
                    self.assertLessEqual(len(ring[2]), 2400)
                continue
            for timetable in (earliest(network, [0] * 40), latest(network, [-GREAT] * 40), earliest(network, [chance.randint(-GREAT, GREAT) for _ in points])):
                for many in (0, 1, 6, 39, 40):
                    chosen = chance.sample(range(40), many)
                    told, numbers = [names[k] for k in chosen], [timetable[k] for k in chosen]
                    found = completed(network, told, numbers)
                    self.assertTrue(is_timetable(points, rules, found))
                    self.assertEqual([found[k] for k in chosen], numbers)
                    self.assertIs(can_complete(network, told, numbers), True)
                    self.assertIsNone(why_not(network, told, numbers))
                    self.assertIs(has_timetable(pinned(network, told, numbers)), True)
                    if many > 1:
                        numbers[0] += 60 * GREAT
                        fits = has_timetable(pinned(network, told, numbers))
                        self.assertIs(can_complete(network, told, numbers), fits)
                        self.assertEqual(why_not(network, told, numbers) is None, fits)
                        numbers[-1] += 1
                        if points[chosen[-1]][2] > 1:
                            self.assertEqual(why_not(network, told, numbers), ("clock", many - 1))
                    completed_ones += 1
        self.assertGreater(completed_ones, 40)

    def test_6_doors(self):
        chance = random.Random(103)
        both = [0, 0]
        for points, rules in great_networks():
            network = Network(points, rules)
            if find_ring(network) is not None:
                continue
            doors = chance.sample(network.names(), 6)
            table = table_of(network, doors)
            for _ in range(20):
                timetable = earliest(network, [chance.randint(-100, 100) for _ in points])
                numbers = [timetable[network.index(name)] for name in doors]
                self.assertIs(door_numbers_fit(table, numbers), True)
                k = chance.randint(0, 5)
                numbers[k] += chance.choice([-1, 1]) * network.clock(doors[k])[1] * chance.randint(1, 60)
                fits = door_numbers_fit(table, numbers)
                both[fits] += 1
                self.assertIs(can_complete(network, doors, numbers), fits)
        self.assertGreater(min(both), 5)


class Programs(Case):
    def test_12_modules_with_30_items(self):
        modules = great_modules()
        program = Program(modules)
        self.tells(modules, program.modules)
        self.assertEqual(program, Program(tuple(modules)))
        for m, (name, items) in enumerate(modules):
            self.assertEqual(len(items), 30)
            self.assertEqual(program.module(name), (name, items))
            self.assertEqual(len(program.doors(name)), 6)
            self.assertEqual(len(program.points(name)), 12)
            self.tells([f"m{k}" for k in range(max(0, m - 2), m)], program.uses, name)
            self.tells([f"m{k}" for k in range(m + 1, 12)], program.used_by, name)
            if m < 11:
                with self.assertRaises(BadProgram):
                    without_module(program, name)
            self.assertEqual(with_module(program, (name, items)), program)
        self.assertEqual(without_module(program, "m11"), Program(modules[:11]))
        self.assertEqual(with_module(Program(modules[:11]), modules[11]), program)

    def test_each_item_that_is_wrong(self):
        modules = great_modules()
        for m, i in [(0, 0), (5, 17), (11, 29)]:
            name, items = modules[m]
            wrong = (name, items[:i] + (None,) + items[i + 1:])
            self.refused(BadProgram, {"path": (m, 1, i)}, Program, modules[:m] + [wrong] + modules[m + 1:])

    def test_more_modules_and_items_than_the_limits_are_judged(self):
        many = [(f"m{k}", ()) for k in range(300)]
        self.assertEqual(len(Program(many).names()), 300)
        self.refused(BadProgram, {"path": (300, 0)}, Program, many + many[7:8])
        items = tuple(("point", f"p{k}", k, 1 + k % 60) for k in range(500))
        self.assertEqual(len(Program([("m", items)]).points("m")), 500)
        self.refused(BadProgram, {"path": (0, 1, 500, 1)}, Program, [("m", items + items[77:78])])
        joins = tuple((f"p{k}", f"p{k}") for k in range(500))
        doors = tuple(("door", *item[1:]) for item in items)
        program = Program([("l", doors), ("m", items + (("use", "l", joins),))])
        self.assertEqual(program.uses("m"), ["l"])
        self.refused(BadProgram, {"path": (1, 1, 500, 2)}, Program, [("l", doors), ("m", items + (("use", "l", joins[:-1]),))])

    def test_values_nested_40_deep(self):
        program = Program([LEG])
        for wrap in (lambda value: [value], lambda value: (value,), lambda value: {"a": value}, lambda value: (value, 0), lambda value: ("m", value),
                     lambda value: ("m", (value,)), lambda value: ("door", value, 0, 1)):
            value = nested(40 if wrap(0) != ("m", (0,)) else 20, wrap, "a")
            for told in (value, [value], [LEG, value], [("m", value)], [("m", (value,))], [(value, ())], [("m", (("door", value, 0, 1),))],
                         [("m", (("rule", value, value, value),))], [LEG, ("m", (("use", "leg", value),))], [LEG, ("m", (("use", value, value),))],
                         [LEG, ("m", (("use", "leg", (value, value)),))], [LEG, ("m", (("chain", value, value, value, value, value, value),))],
                         [LEG, ("m", (("chain", 1, "leg", value, value, value, value),))]):
                with self.assertRaises(BadProgram):
                    Program(told)
            with self.assertRaises(BadProgram):
                with_module(program, value)
            for method in (program.module, program.doors, program.points, program.uses, program.used_by):
                self.refused(UnknownName, {"name": value}, method, value)
            self.refused(UnknownName, {"name": value}, without_module, program, value)
            self.refused(UnknownName, {"name": value}, flat, program, value)
            self.refused(UnknownName, {"name": value}, flat_size, program, value)
            self.assertFalse(program == value)


class Texts(Case):
    def test_12_modules_with_30_items(self):
        program = Program(great_modules())
        text = program_text(program)
        self.tells(program, read_program, text)
        self.tells(text, program_text, program)

    def test_20000_characters(self):
        lines = [f"rule p{k % 40} p{(k * 7 + 1) % 40} -{k + 1};\n" for k in range(1000)]
        points = [f"point p{k} at 0 every 1;\n" for k in range(40)]
        text = "module a {\n" + "".join(points + lines) + "}\n"
        text += "".join(f"module m{k} {{\n}}\n" for k in range((20000 - len(text)) // 16))
        self.assertGreater(len(text), 19000)
        program = read_program(text)
        self.assertEqual(program_text(program), text)
        for place in (0, 11, len(text) // 2, len(text) - 1):
            for told in (text[:place] + "!" + text[place:], text[:place] + " 0 " + text[place:], text[:place]):
                expected = wrong_place(told)
                if expected is not None:
                    self.refused(BadText, {"place": expected}, read_program, told)
        self.refused(BadText, {"place": 0}, read_program, "}" * 20000)
        self.refused(BadText, {"place": 20000}, read_program, "module a {" + " " * 19990)
        self.refused(BadText, {"place": 10}, read_program, "module a {" + "1" * 19990)
        self.refused(BadText, {"place": 7}, read_program, "module " + "a" * 19993)
        self.tells(Program([]), read_program, "\n" * 20000)


class Flat(Case):
    def test_12_modules_with_30_items(self):
        modules = great_modules()
        program = Program(modules)
        for name, _ in modules:
            if flat_size(program, name) > 200:
                self.refused(TooGreat, {}, flat, program, name)
            else:
                found = flat(program, name)
                self.assertEqual((found.points(), found.rules()), flattened(modules, name))
        self.assertEqual(flat_size(program, "m0"), 12)
        self.assertGreater(flat_size(program, "m11"), 10 ** 30)

    def test_12_modules_that_use_each_other(self):
        doors = (("door", "a", 0, 2), ("door", "b", 0, 2))
        modules = [("m0", (*doors, ("point", "h", 0, 3), ("rule", "a", "h", 1), ("rule", "h", "b", 1)))]
        for k in range(1, 12):
            modules.append((f"m{k}", (*doors, ("point", "h", k, 5), ("use", f"m{k - 1}", (("b", "a"), ("a", "b"))), ("rule", "h", "a", -k))))
        program = Program(modules)
        for k, (name, _) in enumerate(modules):
            found = flat(program, name)
            self.assertEqual((found.points(), found.rules()), flattened(modules, name))
            self.assertEqual(flat_size(program, name), 3 + k)

    def test_200_points_in_timetables(self):
        program = Program([LEG, ("m", (("door", "a", 0, 2), ("door", "b", 0, 2), ("chain", 99, "leg", "p", "q", "a", "b")))])
        found = flat(program, "m")
        self.assertEqual(len(found.points()), 199)
        table = table_of(found, ["a", "b"])
        numbers = earliest(found, [0] * 199)
        self.assertTrue(is_timetable(found.points(), found.rules(), numbers))
        self.assertIs(door_numbers_fit(table, numbers[:2]), True)
        # 99 copies take 0 to 2, 2 to 6, 6 to 8, and so on.
        self.assertEqual([table.lead("a", "b").at(v) for v in (0, 2, 4)], [296, 300, 302])


if __name__ == "__main__":
    unittest.main()
