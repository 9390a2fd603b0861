"""Programs with a module put to them or taken from them."""

import unittest

from roundticks.errors import BadProgram, UnknownName
from roundticks.programs import Program, with_module, without_module
from tests.case import LEG, TRIP, Case, anything

BARE = ("bare", ())
SAME = ("leg", LEG[1][:5] + (("rule", "q", "p", -3),))
LAST = ("last", (("door", "a", 0, 2), ("use", "trip", (("a", "a"),))))


class Put(Case):
    def test_in_the_place_of_one(self):
        program = Program([BARE, LEG, TRIP, LAST])
        self.tells(Program([BARE, SAME, TRIP, LAST]), with_module, program, SAME)
        self.tells(Program([LEG, BARE, TRIP]), with_module, Program([LEG, ("bare", LEG[1]), TRIP]), BARE)
        self.tells(Program([BARE, LEG, TRIP, ("last", ())]), with_module, program, ("last", ()))
        self.tells(program, with_module, program, LEG)
        self.tells(program, with_module, program, BARE)
        self.assertEqual(program.modules(), [BARE, LEG, TRIP, LAST])

    def test_behind_all_others(self):
        self.tells(Program([LEG]), with_module, Program([]), LEG)
        self.tells(Program([LEG, TRIP]), with_module, Program([LEG]), TRIP)
        self.tells(Program([BARE, LEG]), with_module, Program([BARE]), LEG)
        self.tells(Program([LEG, TRIP, BARE]), with_module, Program([LEG, TRIP]), BARE)

    def test_a_module_that_is_refused_in_its_place(self):
        program = Program([BARE, LEG, TRIP, LAST])
        for items, path in [(None, (1, 1)), ([], (1, 1)), ((None,), (1, 1, 0)), ((("door", "p", 0, 0),), (1, 1, 0, 3)),
                            ((("door", "p", 0, 2), ("use", "trip", ())), (1, 1, 1, 1)), ((("use", "leg", ()),), (1, 1, 0, 1))]:
            self.refused(BadProgram, {"path": path}, with_module, program, ("leg", items))
        self.refused(BadProgram, {"path": (0, 1, 0, 1)}, with_module, program, ("bare", (("use", "leg", (("p", "p"), ("q", "q"))),)))
        self.assertEqual(program, Program([BARE, LEG, TRIP, LAST]))

    def test_a_change_that_breaks_a_later_module(self):
        program = Program([BARE, LEG, TRIP, LAST])
        for items, path in [((), (2, 1, 2, 3)), (LEG[1][:1], (2, 1, 2, 4)), ((("door", "p", 1, 2), *LEG[1][1:]), (2, 1, 2, 4)),
                            ((("door", "p", 1, 2), ("door", "q", 1, 2)), (2, 1, 2, 5)),
                            ((("point", "p", 0, 2), *LEG[1][1:]), (2, 1, 2, 3))]:
            self.refused(BadProgram, {"path": path}, with_module, program, ("leg", items))
        self.refused(BadProgram, {"path": (3, 1, 1, 2)}, with_module, program, ("trip", (*TRIP[1], ("door", "c", 0, 1))))
        self.refused(BadProgram, {"path": (3, 1, 1, 2, 0, 0)}, with_module, program, ("trip", ()))
        self.refused(BadProgram, {"path": (3, 1, 1, 2, 0, 1)}, with_module, program, ("trip", (("door", "a", 1, 2),)))
        self.assertEqual(program.modules(), [BARE, LEG, TRIP, LAST])

    def test_what_is_no_tuple_of_two_that_begins_with_a_word(self):
        program = Program([BARE, LEG])
        for value in [None, True, 0, "", "leg", [], list(LEG), (), ("leg",), (*LEG, ()), {}, {"leg": LEG[1]}, [LEG], (LEG,)]:
            self.refused(BadProgram, {"path": (2,)}, with_module, program, value)
            self.refused(BadProgram, {"path": (0,)}, with_module, Program([]), value)
        for name in [None, True, 0, "", "Leg", "leg ", [], ["leg"], ("leg",), {}, {"leg": 0}, "abcdefghijklm"]:
            self.refused(BadProgram, {"path": (2, 0)}, with_module, program, (name, ()))
            self.refused(BadProgram, {"path": (2, 0)}, with_module, program, (name, None))
        self.refused(BadProgram, {"path": (2, 1)}, with_module, program, ("trip", []))
        self.refused(BadProgram, {"path": (2, 1, 2, 2)}, with_module, Program([BARE, ("lag", LEG[1])]), TRIP)

    def test_values_of_all_kinds(self):
        program = Program([BARE, LEG])
        for value in anything():
            self.refused(BadProgram, {"path": (2, 1) if value == ("a", 0) else (2,)}, with_module, program, value)
            if value not in ("a", "z9"):
                self.refused(BadProgram, {"path": (2, 0)}, with_module, program, (value, ()))
            if type(value) is not tuple:
                self.refused(BadProgram, {"path": (1, 1)}, with_module, program, ("leg", value))


class Dropped(Case):
    def test_what_is_not_used(self):
        self.tells(Program([]), without_module, Program([LEG]), "leg")
        self.tells(Program([LEG]), without_module, Program([LEG, TRIP]), "trip")
        self.tells(Program([LEG, TRIP]), without_module, Program([LEG, BARE, TRIP]), "bare")
        self.tells(Program([LEG, TRIP]), without_module, Program([BARE, LEG, TRIP]), "bare")

    def test_what_is_used(self):
        program = Program([BARE, LEG, TRIP, LAST])
        self.refused(BadProgram, {"path": (1, 1, 2, 2)}, without_module, program, "leg")
        self.refused(BadProgram, {"path": (2, 1, 1, 1)}, without_module, program, "trip")
        self.tells(Program([LEG, TRIP, LAST]), without_module, program, "bare")
        self.tells(Program([BARE, LEG, TRIP]), without_module, program, "last")
        self.assertEqual(program.modules(), [BARE, LEG, TRIP, LAST])

    def test_names_that_are_none(self):
        program = Program([LEG, TRIP])
        for name in ["x", "", "p", "legs", None, 0, True, [], ["leg"], ("leg",), {"leg": 0}, LEG] + anything():
            self.refused(UnknownName, {"name": name}, without_module, program, name)
            self.refused(UnknownName, {"name": name}, without_module, Program([]), name)
        self.assertEqual(program, Program([LEG, TRIP]))


if __name__ == "__main__":
    unittest.main()
