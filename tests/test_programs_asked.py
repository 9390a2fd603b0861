"""What programs tell of themselves (S6.1)."""

import itertools
import unittest

from roundticks.errors import UnknownName
from roundticks.programs import Program
from tests.case import LEG, TRIP, Case, anything, nested

BARE = ("bare", ())
POINTS = (("door", "a", 0, 2), ("point", "b", 4, 2))
JOINS = (("p", "a"), ("q", "b"))


def using(name, *used):
    """A module that uses others, by use and by chain."""
    items = [("use", own, JOINS) if word == "use" else ("chain", 3, own, "p", "q", "a", "b") for word, own in used]
    return (name, POINTS + tuple(items))


def part(name):
    return (name, LEG[1])


class Asked(Case):
    def test_modules_and_names(self):
        for some in (list, tuple):
            program = Program(some([LEG, BARE, TRIP]))
            self.tells([LEG, BARE, TRIP], program.modules)
            self.tells(["leg", "bare", "trip"], program.names)
        self.tells([], Program([]).modules)
        self.tells([], Program(()).names)

    def test_a_module(self):
        program = Program([LEG, BARE, TRIP])
        for module in (LEG, BARE, TRIP):
            self.tells(module, program.module, module[0])

    def test_doors_and_points(self):
        program = Program([LEG, BARE, TRIP])
        self.tells([("p", 0, 2), ("q", 0, 2)], program.doors, "leg")
        self.tells([("p", 0, 2), ("q", 0, 2), ("h", 1, 3)], program.points, "leg")
        self.tells([("a", 0, 2)], program.doors, "trip")
        self.tells([("a", 0, 2), ("b", 4, 2)], program.points, "trip")
        self.tells([], program.doors, "bare")
        self.tells([], program.points, "bare")

    def test_the_order_of_doors_and_points(self):
        items = (("rule", "z", "a", 5), ("point", "m", 0, 1), ("door", "z", -4, 6), ("rule", "b", "b", 0), ("point", "b", 3, 2),
                 ("door", "a", 10 ** 30, 60), ("point", "k", 1, 1))
        program = Program([("x", items)])
        self.tells([("z", -4, 6), ("a", 10 ** 30, 60)], program.doors, "x")
        self.tells([("m", 0, 1), ("z", -4, 6), ("b", 3, 2), ("a", 10 ** 30, 60), ("k", 1, 1)], program.points, "x")

    def test_names_that_are_none(self):
        program = Program([LEG, BARE, TRIP])
        for name in ["x", "", "Leg", "legs", "p", "a", None, 0, True, [], ["leg"], (), ("leg",), {}, {"leg": 0}, LEG,
                     nested(40, lambda value: [value], "leg")]:
            for method in (program.module, program.doors, program.points, program.uses, program.used_by):
                self.refused(UnknownName, {"name": name}, method, name)
            for method in (Program([]).module, Program([]).doors, Program([]).points, Program([]).uses, Program([]).used_by):
                self.refused(UnknownName, {"name": name}, method, name)
        for value in anything():
            for method in (program.module, program.doors, program.points, program.uses, program.used_by):
                self.refused(UnknownName, {"name": value}, method, value)

    def test_what_is_passed_and_returned_may_be_changed(self):
        modules = [LEG, TRIP]
        program = Program(modules)
        modules.clear()
        for method in (program.modules, program.names):
            method().clear()
        for method in (program.doors, program.points, program.uses, program.used_by):
            method("leg").append("x")
            method("trip").append("x")
        self.assertEqual(program, Program([LEG, TRIP]))
        self.tells([LEG, TRIP], program.modules)
        self.tells(["leg"], program.uses, "trip")


class Using(Case):
    def test_the_example(self):
        program = Program([LEG, TRIP])
        self.tells([], program.uses, "leg")
        self.tells(["leg"], program.uses, "trip")
        self.tells(["trip"], program.used_by, "leg")
        self.tells([], program.used_by, "trip")

    def test_by_use_and_by_chain_each_once_in_the_order_of_the_program(self):
        names = ["c", "a", "b"]
        parts = [part(name) for name in names]
        for words in itertools.product(("use", "chain"), repeat=3):
            for order in itertools.permutations("abc"):
                used = list(zip(words, order))
                program = Program(parts + [using("m", *used, *used[::-1], used[0])])
                self.tells(names, program.uses, "m")
                program = Program(parts + [using("m", *used[:2])])
                self.tells([name for name in names if name in order[:2]], program.uses, "m")
                for name in names:
                    self.tells(["m"] if name in order[:2] else [], program.used_by, name)

    def test_through_others(self):
        doors = (("door", "p", 0, 2), ("door", "q", 0, 2))

        def middle(name, *used):
            return (name, doors + tuple([("use", own, (("p", "p"), ("q", "q"))) for own in used]))

        program = Program([part("a"), part("z"), middle("m", "a"), middle("b", "z"), middle("n", "m", "b"), middle("c"), middle("k", "n", "a")])
        self.tells(["m", "n", "k"], program.used_by, "a")
        self.tells(["b", "n", "k"], program.used_by, "z")
        self.tells(["n", "k"], program.used_by, "m")
        self.tells(["n", "k"], program.used_by, "b")
        self.tells(["k"], program.used_by, "n")
        self.tells([], program.used_by, "c")
        self.tells([], program.used_by, "k")
        self.tells(["a", "n"], program.uses, "k")
        self.tells(["m", "b"], program.uses, "n")
        self.tells(["a"], program.uses, "m")
        self.tells([], program.uses, "c")

    def test_the_name_of_a_point_is_no_use(self):
        program = Program([("a", ()), ("m", POINTS + (("rule", "a", "b", 0),)), ("p", LEG[1]), ("n", (("door", "p", 0, 2), ("door", "a", 0, 2)))])
        for name in ("a", "m", "p", "n"):
            self.tells([], program.uses, name)
            self.tells([], program.used_by, name)


class Equal(Case):
    def equal(self, one, other, are=True):
        self.assertIs(one == other, are)
        self.assertIs(other == one, are)
        self.assertIs(one != other, not are)
        self.assertIs(other != one, not are)

    def test_equal_programs(self):
        self.equal(Program([]), Program(()))
        self.equal(Program([LEG, TRIP]), Program((LEG, TRIP)))
        self.equal(Program([LEG, TRIP]), Program(Program([LEG, TRIP]).modules()))

    def test_others_by_one_item(self):
        program = Program([LEG, BARE])
        for k in range(len(LEG[1])):
            if LEG[1][k][0] == "rule":
                start, end, least = LEG[1][k][1:]
                for other in [("rule", start, end, least + 1), ("rule", end, start, least), ("rule", start, start, least)]:
                    self.equal(program, Program([("leg", LEG[1][:k] + (other,) + LEG[1][k + 1:]), BARE]), False)
                self.equal(program, Program([("leg", LEG[1][:k] + LEG[1][k + 1:]), BARE]), False)
            else:
                word, name, first, step = LEG[1][k]
                for other in [("point" if word == "door" else "door", name, first, step), (word, name, first + step, step), (word, name, first, 7)]:
                    self.equal(program, Program([("leg", LEG[1][:k] + (other,) + LEG[1][k + 1:]), BARE]), False)
        self.equal(program, Program([("leg", LEG[1] + (("rule", "p", "p", 0),)), BARE]), False)
        self.equal(program, Program([("leg", LEG[1][1::-1] + LEG[1][2:]), BARE]), False)

    def test_other_modules(self):
        self.equal(Program([LEG, BARE]), Program([BARE, LEG]), False)
        self.equal(Program([LEG, BARE]), Program([LEG]), False)
        self.equal(Program([LEG, BARE]), Program([LEG, BARE, TRIP]), False)
        self.equal(Program([LEG]), Program([("lag", LEG[1])]), False)
        self.equal(Program([]), Program([BARE]), False)

    def test_values_of_other_kinds(self):
        for value in anything() + [[LEG], (LEG,), [], LEG]:
            if not isinstance(value, Program):
                self.equal(Program([LEG]), value, False)
                self.equal(Program([]), value, False)


if __name__ == "__main__":
    unittest.main()
