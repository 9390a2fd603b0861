"""What is refused as a program, told by its path (S6.4)."""

import itertools
import unittest

from roundticks.errors import BadProgram
from roundticks.programs import Program
from tests.case import LEG, TRIP, Case, anything, nested, sample, stay

# Two doors with the same clock, one with an alike clock told otherwise, and one with another clock.
PART = ("part", (("door", "p", 0, 2), ("door", "q", 0, 2), ("door", "r", 6, 2), ("door", "s", 1, 2), ("point", "t", 0, 2)))
PAIR = ("pair", (("door", "p", 0, 2), ("door", "q", 4, 2), ("point", "h", 0, 2)))
BARE = ("bare", ())
POINTS = (("door", "a", 0, 2), ("point", "b", 4, 2), ("point", "c", 1, 2), ("door", "d", 0, 3))
NO_NAMES = [None, True, False, 0, 1, "", "A", "1a", "a b", "abcdefghijklm", [], ["a"], {}, {"a": 1}, (), ("a",), ("a", []),
            stay((0, 1)), nested(40, lambda value: [value], "a")]
NO_INTEGERS = [None, True, False, "", "0", [], [0], (), (0,), {}, {0: 0}, sample()]
JOINS = (("p", "a"), ("q", "b"), ("r", "a"), ("s", "c"))


class Refused(Case):
    def check(self, path, modules):
        """The path is told for a list and for a tuple of modules."""
        self.refused(BadProgram, {"path": path}, Program, modules)
        if type(modules) is list:
            self.refused(BadProgram, {"path": path}, Program, tuple(modules))

    def item(self, path, item, points=POINTS):
        """The path within an item is told, wherever the item stands, and whatever is wrong behind it."""
        before = [PART, PAIR, BARE]
        wrong = [("rule", "a", "x", None), ("use", "x", None), ("chain", 0, "x", 0, 0, 0, 0)]
        for items in [(*points, item), (item, *points), (*points, item, item), (*points, item, *wrong), (item, *wrong, *points),
                      (*points, ("rule", "a", "b", 0), item, wrong[0])]:
            place = items.index(item)
            self.check((3, 1, place, *path), before + [("m", items)])
            self.check((3, 1, place, *path), before + [("m", items), None, ("m", None)])

    def taken(self, *items, points=POINTS):
        modules = [PART, PAIR, BARE, ("m", points + items)]
        for some in (list, tuple):
            self.assertEqual(Program(some(modules)).modules(), modules)


class Modules(Refused):
    def test_right_ones(self):
        self.assertEqual(Program([]).modules(), [])
        self.assertEqual(Program(()).modules(), [])
        self.assertEqual(Program([LEG, TRIP]).modules(), [LEG, TRIP])
        self.taken()
        self.taken(("use", "part", JOINS))

    def test_modules_that_are_no_list(self):
        for value in [None, True, False, 0, 1, "", "ab", {}, {0: LEG}, {"leg": LEG[1]}, stay((0, 1)), Program([LEG])]:
            self.check((), value)

    def test_modules_that_are_no_pairs(self):
        for value in [None, True, 0, "", "ab", [], ["leg", LEG[1]], list(LEG), {}, {0: 0, 1: 1}, (), ("leg",), ("leg", (), ()), (LEG,), LEG[1],
                      Program([LEG])]:
            self.check((0,), [value])
            self.check((1,), [LEG, value])
            self.check((1,), [LEG, value, LEG])
            self.check((0,), [value, value])

    def test_names_of_modules(self):
        for name in NO_NAMES + ["leg"]:
            for items in ((), None, [], (None,), (("door", "a", 0, 0),)):
                self.check((1, 0), [LEG, (name, items), None])
                if name != "leg":
                    self.check((0, 0), [(name, items)])
        self.check((2, 0), [LEG, BARE, LEG])
        self.check((2, 0), [LEG, BARE, ("bare", None)])

    def test_items_that_are_no_tuple(self):
        for items in [None, True, 0, "", "ab", [], [("door", "a", 0, 2)], list(LEG[1]), {}, {("door", "a", 0, 2): 0}, stay((0, 1))]:
            self.check((0, 1), [("m", items)])
            self.check((1, 1), [LEG, ("m", items), LEG])

    def test_each_module_is_looked_at_completely(self):
        self.check((0, 1, 0), [("m", (None,)), None])
        self.check((0, 1, 0, 3), [("m", (("door", "a", 0, 0),)), ("m", ())])
        self.check((0, 1, 0, 1), [("m", (("rule", "a", "a", 0),)), ()])
        self.check((1, 1, 0, 1), [BARE, ("m", (("use", "x", ()),)), BARE])

    def test_values_of_all_kinds(self):
        for value in anything():
            if type(value) not in (list, tuple):
                self.check((), value)
            if type(value) is not tuple or len(value) != 2:
                self.check((0,), [value])
                self.check((1,), [LEG, value])
            if value not in ("a", "z9"):
                self.check((0, 0), [(value, value)])
            if type(value) is not tuple:
                self.check((0, 1), [("m", value)])
            if value != ():
                self.check((1, 1, 0), [LEG, ("m", (value, value))])


class Items(Refused):
    ITEMS = [("door", "e", 0, 1), ("point", "e", 0, 1), ("rule", "a", "b", 0), ("use", "part", JOINS),
             ("chain", 1, "part", "p", "q", "a", "b")]

    def test_words_with_a_member_too_many_and_too_few(self):
        for item in self.ITEMS:
            self.taken(item)
            for many in range(len(item)):
                self.item((), item[:many])
            for more in (0, None, "a", ()):
                self.item((), item + (more,))
            for k in range(1, len(item)):
                self.item((), item[:k] + item[k + 1:])

    def test_items_that_are_no_tuples(self):
        for item in self.ITEMS:
            self.item((), list(item))
            self.item((), (item,))
            self.item((), {0: item})
        for item in [None, True, 0, "", "door", "rule", [], {}, (), stay((0, 1))]:
            self.item((), item)

    def test_what_begins_with_no_word(self):
        for item in self.ITEMS:
            for word in NO_NAMES + ["doors", "Door", "poin", "rules", "uses", "chains", "module", "a", item]:
                self.item((), (word, *item[1:]))

    def test_words_of_others(self):
        self.item((), ("use", "a", "b", 0))
        self.item((), ("rule", "part", JOINS))
        self.item((), ("chain", "a", "b", 0))
        self.item((), ("door", 1, "part", "p", "q", "a", "b"))

    def test_forms_are_ahead_of_all_parts(self):
        for wrong in [("door", None, 0, 2), ("point", "a", None, 2), ("rule", "x", "y", 0), ("use", "x", ()), ("chain", 0, "part", "p", "q", "a", "b")]:
            self.check((0, 1, 1), [("m", (wrong, None))])
            self.check((0, 1, 3), [("m", (wrong, wrong, wrong, ("door", "a", 0)))])
            self.check((0, 1, 0), [("m", (("rule", "a", "a"), wrong))])


class Points(Refused):
    def test_names(self):
        for word in ("door", "point"):
            for name in NO_NAMES:
                for first, step in [(0, 1), (None, 1), (0, 0)]:
                    self.check((0, 1, 0, 1), [("m", ((word, name, first, step),))])
                    self.check((0, 1, 1, 1), [("m", (POINTS[0], (word, name, first, step), ("door", None, 0, 1)))])

    def test_names_told_twice(self):
        for one, other in itertools.product(("door", "point"), repeat=2):
            self.check((0, 1, 1, 1), [("m", ((one, "a", 0, 1), (other, "a", 0, 1)))])
            self.check((0, 1, 2, 1), [("m", ((one, "a", 0, 1), ("rule", "a", "b", 0), (other, "a", None, 1), ("point", "b", 0, 1)))])
            self.check((0, 1, 3, 1), [("m", ((one, "a", 0, 1), ("point", "b", 0, 1), ("door", "c", 0, 1), (other, "b", 0, 1)))])
        Program([("m", (("door", "a", 0, 1),)), ("n", (("door", "a", 0, 1),))])

    def test_firsts_and_steps(self):
        for word in ("door", "point"):
            for first in NO_INTEGERS:
                for step in (1, 0, None):
                    self.check((0, 1, 1, 2), [("m", (POINTS[0], (word, "b", first, step), (word, "a", 0, 1)))])
            for step in NO_INTEGERS + [0, -1, 61, 10 ** 30]:
                self.check((0, 1, 1, 3), [("m", (POINTS[0], (word, "b", 0, step), (word, "a", 0, 1)))])
            for step in range(1, 61):
                Program([("m", ((word, "b", -10 ** 30, step),))])

    def test_points_are_ahead_of_all_other_items(self):
        for other in [("rule", "x", "a", 0), ("rule", "a", "a", None), ("use", "x", ()), ("use", "bare", None),
                      ("chain", 0, "part", "p", "q", "a", "b"), ("chain", 1, "x", "p", "q", "a", "b")]:
            for wrong, k in [(("door", "a", 0, 1), 1), (("point", None, 0, 1), 1), (("point", "e", None, 1), 2), (("door", "e", 0, 0), 3)]:
                self.check((1, 1, 2, k), [BARE, ("m", (other, ("door", "a", 0, 2), wrong))])
                self.check((1, 1, 3, k), [BARE, ("m", (("door", "a", 0, 2), other, other, wrong, other))])

    def test_items_that_name_a_point_may_come_earlier(self):
        items = (("rule", "a", "b", 0), ("use", "part", JOINS), ("chain", 1, "part", "p", "q", "a", "b"))
        Program([PART, ("m", items + POINTS)])
        Program([PART, ("m", (items[0], POINTS[3], items[1], *POINTS[:3], items[2]))])


class Rules(Refused):
    def test_names(self):
        for name in NO_NAMES + ["x", "part", "p", "m"]:
            for end, least in itertools.product(("b", "x", None), (0, None)):
                self.item((1,), ("rule", name, end, least))
            for least in (0, None, True):
                self.item((2,), ("rule", "a", name, least))

    def test_leasts(self):
        for least in NO_INTEGERS:
            self.item((3,), ("rule", "a", "a", least))
        for least in (0, -1, 10 ** 40 - 1, 1 - 10 ** 40):
            self.taken(("rule", "a", "d", least), ("rule", "b", "b", least))


class Uses(Refused):
    def test_names_of_modules(self):
        for name in NO_NAMES + ["x", "a", "parts", "m"]:
            for joins in (JOINS, None, (), (None,)):
                self.item((1,), ("use", name, joins))

    def test_modules_that_use_themselves_or_later_ones(self):
        self.check((0, 1, 0, 1), [("m", (("use", "m", ()),))])
        self.check((0, 1, 0, 1), [("m", (("use", "bare", ()),)), BARE])
        Program([BARE, ("m", (("use", "bare", ()),))])
        self.check((1, 1, 0, 1), [BARE, ("m", (("use", "m", ()),))])
        self.check((1, 1, 1, 1), [BARE, ("m", (("use", "bare", ()), ("use", "n", ()))), ("n", ())])

    def test_joins_that_are_no_tuple(self):
        for joins in [None, True, 0, "", "ab", [], list(JOINS), {}, dict(JOINS), stay((0, 1))]:
            self.item((2,), ("use", "part", joins))
            self.item((2,), ("use", "bare", joins))

    def test_joins_that_are_no_pairs(self):
        for join in [None, True, 0, "", "pa", [], ["p", "a"], {}, {"p": "a"}, (), ("p",), ("p", "a", "b"), (("p", "a"),), stay((0, 1))]:
            for k in range(4):
                for behind in (JOINS[k + 1:], (("x", "x"),), (None, None)):
                    self.item((2, k), ("use", "part", (*JOINS[:k], join, *behind)))
            self.item((2, 4), ("use", "part", (*JOINS, join)))
            self.item((2, 0), ("use", "bare", (join,)))

    def test_doors_of_joins(self):
        for name in NO_NAMES + ["x", "t", "a", "part", "pp"]:
            for point in ("a", "x", None):
                for k in range(4):
                    self.item((2, k, 0), ("use", "part", (*JOINS[:k], (name, point), None)))
        self.item((2, 0, 0), ("use", "bare", (("p", "a"),)))

    def test_a_door_told_twice(self):
        for k, j in itertools.combinations(range(4), 2):
            for point in (JOINS[k][1], "x"):
                self.item((2, j, 0), ("use", "part", (*JOINS[:j], (JOINS[k][0], point), *JOINS[j:])))
        self.item((2, 4, 0), ("use", "part", (*JOINS, JOINS[0])))

    def test_points_of_joins(self):
        for name in NO_NAMES + ["x", "p", "part"]:
            for k in range(4):
                self.item((2, k, 1), ("use", "part", (*JOINS[:k], (JOINS[k][0], name), None)))

    def test_unlike_clocks(self):
        clocks = {name: (first, step) for _, name, first, step in POINTS}
        doors = {name: (first, step) for _, name, first, step in PART[1]}
        for door, point in itertools.product("pqrs", "abcd"):
            (first, step), (own, period) = doors[door], clocks[point]
            rest = tuple(join for join in JOINS if join[0] != door)
            if step == period and (own - first) % step == 0:
                self.taken(("use", "part", (*rest, (door, point))))
                self.taken(("use", "part", ((door, point), *rest)))
            else:
                self.item((2, 3, 1), ("use", "part", (*rest, (door, point))))
                self.item((2, 0, 1), ("use", "part", ((door, point), None)))

    def test_clocks_that_are_alike_told_by_other_firsts(self):
        for first in (0, 2, -2, 10 ** 30):
            points = (("door", "a", first, 2), ("point", "c", first + 1, 2), ("point", "b", 0, 1))
            self.taken(("use", "part", (("p", "a"), ("q", "a"), ("r", "a"), ("s", "c"))), points=points)
            self.item((2, 2, 1), ("use", "part", (("p", "a"), ("q", "a"), ("r", "c"), ("s", "c"))), points=points)

    def test_a_door_left_out(self):
        for many in range(4):
            for joins in itertools.combinations(JOINS, many):
                self.item((2,), ("use", "part", joins))
        self.taken(("use", "bare", ()))

    def test_two_doors_at_one_point(self):
        self.taken(("use", "part", (("p", "a"), ("q", "a"), ("r", "a"), ("s", "c"))))
        self.taken(("use", "part", JOINS), ("use", "part", JOINS))
        for order in itertools.permutations(JOINS):
            self.taken(("use", "part", order))


class Chains(Refused):
    def chain(self, k, value, item=("chain", 3, "part", "p", "q", "a", "b")):
        return item[:k] + (value,) + item[k + 1:]

    def test_many(self):
        for many in NO_INTEGERS + [0, -1, 10 ** 18 + 1, 10 ** 40 - 1]:
            self.item((1,), self.chain(1, many))
            self.item((1,), ("chain", many, "x", None, None, None, None))
        for many in (1, 2, 10 ** 18 - 1, 10 ** 18):
            self.taken(self.chain(1, many))

    def test_names_of_modules(self):
        for name in NO_NAMES + ["x", "m", "p"]:
            self.item((2,), self.chain(2, name))
            self.item((2,), ("chain", 3, name, None, None, None, None))
        self.check((0, 1, 1, 2), [("part", (*PART[1][:1], self.chain(1, 1)))])
        self.check((0, 1, 1, 2), [("m", (POINTS[0], self.chain(1, 1))), PART])

    def test_into(self):
        for name in NO_NAMES + ["x", "t", "a", "part"]:
            self.item((3,), self.chain(3, name))
            self.item((3,), ("chain", 3, "part", name, name, None, None))
            self.item((3,), ("chain", 3, "bare", name, "p", "a", "b"))

    def test_out(self):
        for name in NO_NAMES + ["x", "t", "a", "part", "p", "s"]:
            self.item((4,), self.chain(4, name))
            self.item((4,), ("chain", 3, "part", "p", name, None, None))
        self.taken(self.chain(4, "r"))
        self.item((4,), ("chain", 3, "part", "s", "p", "c", "a"))
        self.item((4,), ("chain", 3, "part", "q", "q", "a", "a"))

    def test_first_and_last(self):
        for name in NO_NAMES + ["x", "p", "part", "c", "d"]:
            self.item((5,), self.chain(5, name))
            self.item((5,), ("chain", 3, "part", "p", "q", name, name))
            self.item((6,), self.chain(6, name))
        for first, last in itertools.product("ab", repeat=2):
            self.taken(("chain", 3, "part", "p", "q", first, last))
            self.taken(("chain", 3, "part", "q", "r", first, last))

    def test_a_round(self):
        for point in "ab":
            self.taken(("chain", 3, "part", "p", "r", point, point))
        for name in "cd":
            self.item((5,), ("chain", 3, "part", "p", "r", name, name))

    def test_clocks_told_by_other_firsts(self):
        for first in (0, 2, -4, 10 ** 30):
            points = (("door", "a", first, 2), ("door", "b", -first, 2), ("door", "c", first + 1, 2))
            self.taken(("chain", 3, "pair", "p", "q", "a", "b"), ("chain", 3, "pair", "q", "p", "b", "b"), points=points)
            self.item((5,), ("chain", 3, "pair", "p", "q", "c", "b"), points=points)
            self.item((6,), ("chain", 3, "pair", "p", "q", "a", "c"), points=points)

    def test_chains_in_what_is_chained(self):
        Program([LEG, TRIP, ("two", (("door", "a", 0, 2), ("door", "b", 0, 2), ("chain", 5, "leg", "p", "q", "a", "b"))),
                 ("three", (("door", "a", 0, 2), ("chain", 7, "two", "a", "b", "a", "a")))])
        self.check((2, 1, 1, 4), [LEG, TRIP, ("m", (("door", "a", 0, 2), ("chain", 2, "trip", "a", "b", "a", "a")))])


class Anything(Refused):
    def test_values_of_all_kinds_in_each_place(self):
        for value in anything():
            for item in Items.ITEMS[2:]:
                for k in range(1, len(item)):
                    if value != item[k] and value not in ("a", "b") and not (item[0] == "rule" and k == 3 and type(value) is int) \
                            and not (item[0] == "chain" and k == 1 and type(value) is int):
                        wrong = item[:k] + (value,) + item[k + 1:]
                        told = self.path_of(wrong, k, value)
                        self.check((1, 1, 4, *told), [PART, ("m", (*POINTS, wrong))])

    def path_of(self, item, k, value):
        """Where the value is wrong; a tuple in the place of joins may be wrong within."""
        if item[0] == "use" and k == 2 and type(value) is tuple and len(value) > 0:
            return (2, 0) if type(value[0]) is not tuple or len(value[0]) != 2 else (2, 0, 0)
        return (k,)


if __name__ == "__main__":
    unittest.main()
