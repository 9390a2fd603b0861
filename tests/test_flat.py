"""Flat networks of modules and how many points they have (S6.2, S6.5)."""

import itertools
import random
import unittest

from roundticks.errors import TooGreat, UnknownName
from roundticks.flat import flat, flat_size
from roundticks.networks import Network
from roundticks.programs import Program
from roundticks.rising import forced
from tests.case import LEG, TRIP, Case, anything, nested


def spread(modules, name):
    """Points and rules of a flat network; names of points of other modules are tuples."""
    items = dict(modules)[name]
    points = [item[1:] for item in items if item[0] in ("door", "point")]
    rules = []

    def put(used, joined, mark):
        inner, told = spread(modules, used)
        names = {key: joined.get(key, (*mark, key)) for key, _, _ in inner}
        points.extend((names[key], first, step) for key, first, step in inner if key not in joined)
        rules.extend((names[start], names[end], least) for start, end, least in told)

    for i, item in enumerate(items):
        if item[0] == "rule":
            rules.append(item[1:])
        if item[0] == "use":
            put(item[1], dict(item[2]), (i,))
        if item[0] == "chain":
            _, many, used, into, out, at, last = item
            clock = [door[2:] for door in dict(modules)[used] if door[:2] == ("door", out)][0]
            for copy in range(1, many + 1):
                joint = last if copy == many else (i, copy, "joint")
                put(used, {into: at, out: joint}, (i, copy))
                if copy < many:
                    points.append((joint, *clock))
                at = joint
    return points, rules


def flattened(modules, name):
    """The points and rules of a flat network, as the document names them."""
    points, rules = spread(modules, name)
    own = [key for key, _, _ in points if isinstance(key, str)]
    free = (f"x{k}" for k in itertools.count() if f"x{k}" not in own)
    names = {key: key if isinstance(key, str) else next(free) for key, _, _ in points}
    return [(names[key], *clock) for key, *clock in points], [(names[start], names[end], least) for start, end, least in rules]


def chained(many, *inner):
    """A module with a chain of so many copies of one with two doors and inner points."""
    link = ("link", (("door", "p", 0, 2), *inner, ("door", "q", 0, 2), ("rule", "p", "q", 1)))
    return Program([link, ("m", (("door", "a", 0, 2), ("door", "b", 0, 2), ("chain", many, "link", "p", "q", "a", "b")))])


class FlatCase(Case):
    def check(self, modules):
        """All modules of a program are flattened as the test's own way tells."""
        program = Program(modules)
        for name, _ in modules:
            points, rules = flattened(modules, name)
            found = self.told(flat, program, name)
            self.assertIs(type(found), Network)
            self.assertEqual(found.points(), points)
            self.assertEqual(found.rules(), rules)
            self.tells(len(points), flat_size, program, name)
        return program


class Examples(FlatCase):
    def test_the_example(self):
        program = self.check([LEG, TRIP])
        found = flat(program, "trip")
        self.assertEqual(found.points(), [("a", 0, 2), ("b", 4, 2), ("x0", 1, 3), ("x1", 0, 2), ("x2", 1, 3)])
        self.assertEqual(found.rules(), [("a", "x0", 1), ("x0", "x1", 1), ("x1", "a", -7), ("x1", "x2", 1), ("x2", "b", 1),
                                         ("b", "x1", -7), ("b", "a", -12)])
        for start, numbers in [(0, (1, 2, 4, 6)), (2, (4, 6, 7, 8)), (4, (7, 8, 10, 12))]:
            x0, x1, x2, b = numbers
            self.assertEqual(forced(found, [start, None, None, None, None]), (start, b, x0, x1, x2))

    def test_a_module_without_uses_and_chains(self):
        program = self.check([LEG, ("bare", ())])
        self.tells(Network([door for door in program.points("leg")], [item[1:] for item in LEG[1][3:]]), flat, program, "leg")
        self.tells(Network([], []), flat, program, "bare")
        self.tells(3, flat_size, program, "leg")
        self.tells(0, flat_size, program, "bare")
        # The items of a module may come in any order.
        items = (("rule", "z", "a", 5), ("point", "m", 0, 1), ("rule", "m", "m", 0), ("door", "z", -4, 6), ("door", "a", 7, 1))
        self.tells(Network([("m", 0, 1), ("z", -4, 6), ("a", 7, 1)], [("z", "a", 5), ("m", "m", 0)]), flat, Program([("k", items)]), "k")


class Uses(FlatCase):
    def test_a_use(self):
        using = ("m", (("rule", "a", "b", 9), ("use", "leg", (("q", "b"), ("p", "a"))), ("point", "a", 2, 2), ("door", "b", 0, 2), ("rule", "b", "a", -9)))
        program = self.check([LEG, using])
        found = flat(program, "m")
        self.assertEqual(found.points(), [("a", 2, 2), ("b", 0, 2), ("x0", 1, 3)])
        self.assertEqual(found.rules(), [("a", "b", 9), ("a", "x0", 1), ("x0", "b", 1), ("b", "a", -7), ("b", "a", -9)])

    def test_doors_that_are_joined_at_one_point(self):
        program = self.check([LEG, ("m", (("point", "a", 0, 2), ("use", "leg", (("p", "a"), ("q", "a")))))])
        found = flat(program, "m")
        self.assertEqual(found.points(), [("a", 0, 2), ("x0", 1, 3)])
        self.assertEqual(found.rules(), [("a", "x0", 1), ("x0", "a", 1), ("a", "a", -7)])

    def test_several_uses_of_one_module(self):
        uses = [("use", "leg", (("p", p), ("q", q))) for p, q in ("ab", "bc", "ca", "aa")]
        points = tuple(("point", name, 2, 2) for name in "abc")
        program = self.check([LEG, ("m", (uses[0], *points, uses[1], ("rule", "a", "c", 0), uses[2], uses[3]))])
        self.tells(7, flat_size, program, "m")

    def test_uses_of_uses(self):
        doors = (("door", "p", 0, 2), ("door", "q", 0, 2))
        use = ("use", "leg", (("p", "p"), ("q", "q")))
        modules = [LEG, ("one", (*doors, use, ("point", "h", 0, 5), ("rule", "h", "p", 3))),
                   ("two", (*doors, ("point", "k", 0, 7), ("use", "one", (("p", "k2"), ("q", "p"))), ("point", "k2", 8, 2), use)),
                   ("three", (("use", "two", (("q", "a"), ("p", "b"))), ("use", "one", (("q", "a"), ("p", "a"))), ("point", "a", 6, 2),
                              ("point", "b", -6, 2), ("rule", "a", "b", 1)))]
        program = self.check(modules)
        self.tells(9, flat_size, program, "three")
        self.assertEqual(flat(program, "two").points()[4:], [("x0", 0, 5), ("x1", 1, 3), ("x2", 1, 3)])

    def test_uses_of_what_has_no_doors(self):
        modules = [("free", (("point", "a", 3, 4), ("rule", "a", "a", -1))), ("m", (("door", "b", 0, 1), ("use", "free", ()), ("use", "free", ()))),
                   ("bare", ()), ("n", (("use", "bare", ()), ("use", "free", ())))]
        program = self.check(modules)
        self.assertEqual(flat(program, "m").points(), [("b", 0, 1), ("x0", 3, 4), ("x1", 3, 4)])
        self.assertEqual(flat(program, "m").rules(), [("x0", "x0", -1), ("x1", "x1", -1)])


class Chains(FlatCase):
    POINTS = (("door", "a", 8, 2), ("point", "b", -4, 2))

    def test_chains_of_some_copies(self):
        for many in (1, 2, 3, 10):
            for first, last in itertools.product("ab", repeat=2):
                for into, out in ("pq", "qp"):
                    program = self.check([LEG, ("m", (*self.POINTS, ("chain", many, "leg", into, out, first, last)))])
                    self.tells(2 + many + many - 1, flat_size, program, "m")

    def test_one_copy_is_like_a_use(self):
        chain = Program([LEG, ("m", (*self.POINTS, ("chain", 1, "leg", "q", "p", "b", "a")))])
        use = Program([LEG, ("m", (*self.POINTS, ("use", "leg", (("q", "b"), ("p", "a")))))])
        self.assertEqual(flat(chain, "m"), flat(use, "m"))

    def test_a_round(self):
        program = self.check([LEG, ("m", (*self.POINTS, ("chain", 2, "leg", "p", "q", "a", "a")))])
        self.assertEqual(flat(program, "m").rules(), [("a", "x0", 1), ("x0", "x1", 1), ("x1", "a", -7), ("x1", "x2", 1), ("x2", "a", 1), ("a", "x1", -7)])
        program = self.check([LEG, ("m", (*self.POINTS, ("chain", 1, "leg", "p", "q", "b", "b")))])
        self.assertEqual(flat(program, "m").rules(), [("b", "x0", 1), ("x0", "b", 1), ("b", "b", -7)])

    def test_doors_of_copies_that_nobody_sees(self):
        part = ("part", (("door", "r", 3, 5), ("door", "p", 0, 2), ("point", "h", 1, 3), ("door", "q", 10, 2), ("door", "s", 0, 2),
                         ("rule", "p", "r", 1), ("rule", "r", "q", 2), ("rule", "s", "h", 3)))
        program = self.check([part, ("m", (*self.POINTS, ("chain", 3, "part", "p", "q", "a", "b")))])
        self.assertEqual(flat(program, "m").points(),
                         [("a", 8, 2), ("b", -4, 2), ("x0", 3, 5), ("x1", 1, 3), ("x2", 0, 2), ("x3", 10, 2), ("x4", 3, 5), ("x5", 1, 3), ("x6", 0, 2),
                          ("x7", 10, 2), ("x8", 3, 5), ("x9", 1, 3), ("x10", 0, 2)])
        self.tells(13, flat_size, program, "m")
        self.check([part, ("m", (*self.POINTS, ("chain", 3, "part", "s", "p", "a", "b")))])

    def test_chains_in_chains(self):
        doors = (("door", "a", 0, 2), ("door", "b", 6, 2))
        modules = [LEG, ("two", (*doors, ("chain", 2, "leg", "p", "q", "a", "b"), ("rule", "b", "a", -20))),
                   ("six", (*doors, ("chain", 3, "two", "a", "b", "a", "b"))),
                   ("all", (("point", "k", 4, 2), ("chain", 2, "six", "b", "a", "k", "k"), ("chain", 1, "two", "a", "b", "k", "k")))]
        program = self.check(modules)
        self.tells(13, flat_size, program, "six")
        self.tells(1 + 2 * 11 + 1 + 3, flat_size, program, "all")

    def test_a_chain_of_what_has_no_other_points(self):
        link = ("link", (("door", "p", 0, 1), ("door", "q", 0, 1), ("rule", "p", "q", 1)))
        program = self.check([link, ("m", (("door", "a", 0, 1), ("chain", 4, "link", "p", "q", "a", "a")))])
        self.assertEqual(flat(program, "m"), Network([("a", 0, 1), ("x0", 0, 1), ("x1", 0, 1), ("x2", 0, 1)],
                                                     [("a", "x0", 1), ("x0", "x1", 1), ("x1", "x2", 1), ("x2", "a", 1)]))


class Names(FlatCase):
    def test_points_of_the_module_itself_called_x0_and_on(self):
        for taken in (["x0"], ["x1"], ["x0", "x1"], ["x2", "x0", "x4"], ["x3", "x03", "x"], ["x10"], ["x5"]):
            points = tuple(("point", name, 0, 2) for name in taken)
            program = self.check([LEG, ("m", (("chain", 3, "leg", "p", "q", taken[0], "z"), *points, ("door", "z", 0, 2)))])
            names = [point[0] for point in flat(program, "m").points()]
            self.assertEqual(names[:len(taken) + 1], taken + ["z"])
            self.assertEqual(names[len(taken) + 1:], [f"x{k}" for k in range(9) if f"x{k}" not in taken][:5])

    def test_names_of_used_modules_do_not_matter(self):
        part = ("part", (("point", "x0", 0, 5), ("door", "x1", 0, 2), ("door", "q", 0, 2), ("point", "a", 0, 3), ("rule", "x0", "a", 4), ("rule", "x1", "q", 5)))
        modules = [part, ("m", (("door", "a", 0, 2), ("door", "q", 0, 2), ("use", "part", (("x1", "q"), ("q", "a"))),
                                ("chain", 2, "part", "q", "x1", "a", "q")))]
        program = self.check(modules + [("n", (("point", "x1", 0, 2), ("use", "m", (("a", "x1"), ("q", "x1")))))])
        self.assertEqual(flat(program, "m").rules()[:2], [("x0", "x1", 4), ("q", "a", 5)])
        self.assertEqual([point[0] for point in flat(program, "n").points()], ["x1", "x0"] + [f"x{k}" for k in range(2, 8)])

    def test_the_clocks_of_joined_points(self):
        doors = (("door", "p", 10, 2), ("door", "q", -8, 2))
        modules = [("link", (*doors, ("rule", "p", "q", 1))), ("use", (("point", "a", 4, 2), ("point", "b", 6, 2), ("use", "link", (("p", "a"), ("q", "b"))))),
                   ("row", (("point", "a", 4, 2), ("door", "b", 6, 2), ("chain", 3, "link", "p", "q", "a", "b"))),
                   ("back", (("point", "a", 4, 2), ("chain", 3, "link", "q", "p", "a", "a"))), ("all", (("point", "c", 2, 2), ("use", "row", (("b", "c"),))))]
        program = self.check(modules)
        self.assertEqual(flat(program, "use").points(), [("a", 4, 2), ("b", 6, 2)])
        self.assertEqual(flat(program, "row").points(), [("a", 4, 2), ("b", 6, 2), ("x0", -8, 2), ("x1", -8, 2)])
        self.assertEqual(flat(program, "back").points(), [("a", 4, 2), ("x0", 10, 2), ("x1", 10, 2)])
        self.assertEqual(flat(program, "all").points(), [("c", 2, 2), ("x0", 4, 2), ("x1", -8, 2), ("x2", -8, 2)])

    def test_names_that_are_none(self):
        for program in (Program([]), Program([LEG, TRIP]), chained(10 ** 18)):
            for name in ["x", "p", "", None, 0, True, [], ["leg"], ("leg",), {"leg": 0}, LEG, nested(40, lambda value: [value], "leg")] + anything():
                self.refused(UnknownName, {"name": name}, flat, program, name)
                self.refused(UnknownName, {"name": name}, flat_size, program, name)


class Sizes(FlatCase):
    def test_chains_of_very_many_copies(self):
        for many in (1, 2, 10 ** 6, 10 ** 18 - 1, 10 ** 18):
            self.tells(2 + many - 1, flat_size, chained(many), "m")
            self.tells(2 + many * 3 + many - 1, flat_size, chained(many, *[("point", f"k{k}", 0, 1) for k in range(3)]), "m")
            self.tells(2 + many * 2 + many - 1, flat_size, chained(many, ("door", "k", 0, 1), ("point", "j", 0, 1)), "m")
        for many in (10 ** 6, 10 ** 18):
            self.refused(TooGreat, {}, flat, chained(many), "m")

    def test_chains_of_chains_of_very_many_copies(self):
        doors = (("door", "p", 0, 2), ("door", "q", 0, 2))
        modules = [("m0", (*doors, ("point", "h", 0, 1)))]
        size = 3
        for k in range(1, 12):
            modules.append((f"m{k}", (*doors, ("chain", 10 ** 18, f"m{k - 1}", "p", "q", "p", "q"), ("use", f"m{k - 1}", (("p", "p"), ("q", "p"))))))
            size = 2 + 10 ** 18 * (size - 2) + 10 ** 18 - 1 + size - 2
            program = Program(modules)
            self.tells(size, flat_size, program, f"m{k}")
            self.refused(TooGreat, {}, flat, program, f"m{k}")
        self.assertEqual(flat(program, "m0").names(), ["p", "q", "h"])

    def test_200_points_and_201(self):
        for middle, hidden in [(199, 0), (66, 2), (100, 1)]:
            inner = [("point", f"k{k}", 0, 1) for k in range(hidden)]
            for many in range(middle - 3, middle + 4):
                program = chained(many, *inner)
                size = 2 + many * hidden + many - 1
                self.tells(size, flat_size, program, "m")
                if size > 200:
                    self.refused(TooGreat, {}, flat, program, "m")
                else:
                    self.assertEqual(len(flat(program, "m").points()), size)
        self.assertEqual(len(flat(chained(199), "m").points()), 200)
        self.refused(TooGreat, {}, flat, chained(200), "m")

    def test_own_points_alone(self):
        for many in (199, 200, 201, 500):
            program = Program([("m", tuple(("point", f"p{k}", 0, 1) for k in range(many)))])
            self.tells(many, flat_size, program, "m")
            if many > 200:
                self.refused(TooGreat, {}, flat, program, "m")
            else:
                self.assertEqual(len(flat(program, "m").points()), many)

    def test_a_used_module_that_is_greater(self):
        doors = tuple(("door", f"d{k}", 0, 1) for k in range(6))
        inner = tuple(("point", f"p{k}", 0, 1) for k in range(199))
        rules = (("rule", "d0", "p0", 5), ("rule", "p198", "d5", 7))
        joins = tuple((f"d{k}", "a") for k in range(6))
        modules = [("great", doors + inner + rules), ("m", (("point", "a", 0, 1), ("use", "great", joins))),
                   ("n", (("point", "a", 0, 1), ("point", "b", 0, 1), ("use", "great", joins)))]
        program = Program(modules)
        self.tells(205, flat_size, program, "great")
        self.tells(200, flat_size, program, "m")
        self.tells(201, flat_size, program, "n")
        self.refused(TooGreat, {}, flat, program, "great")
        self.refused(TooGreat, {}, flat, program, "n")
        found = flat(program, "m")
        self.assertEqual(len(found.points()), 200)
        self.assertEqual(found.rules(), [("a", "x0", 5), ("x198", "a", 7)])

    def test_great_modules_that_are_not_used(self):
        program = Program([*chained(10 ** 18).modules(), LEG, TRIP])
        self.assertEqual(flat(program, "trip"), flat(Program([LEG, TRIP]), "trip"))
        self.tells(5, flat_size, program, "trip")
        self.assertEqual(flat(program, "link"), Network([("p", 0, 2), ("q", 0, 2)], [("p", "q", 1)]))


class ByChance(FlatCase):
    def test_many_programs(self):
        chance = random.Random(95)
        checked = 0
        for _ in range(150):
            modules = []
            for m in range(chance.randint(1, 4)):
                names = chance.sample(["a", "b", "c", "x0", "x1", "x3", "p", "q"], chance.randint(2, 5))
                items = [(chance.choice(["door", "point", "door"]), name, chance.choice([0, 2, -4]), 2) for name in names]
                items += [("rule", *chance.choices(names, k=2), chance.randint(-9, 9)) for _ in range(chance.randint(0, 3))]
                for used, told in modules:
                    doors = [item[1] for item in told if item[0] == "door"]
                    if chance.random() < 0.6:
                        items.append(("use", used, tuple((door, chance.choice(names)) for door in chance.sample(doors, len(doors)))))
                    if chance.random() < 0.6 and len(doors) > 1:
                        items.append(("chain", chance.randint(1, 4), used, *chance.sample(doors, 2), *chance.choices(names, k=2)))
                chance.shuffle(items)
                modules.append((f"m{m}", tuple(items)))
            if max(len(flattened(modules, name)[0]) for name, _ in modules) <= 200:
                self.check(modules)
                checked += 1
        self.assertGreater(checked, 80)


if __name__ == "__main__":
    unittest.main()
