"""Consoles and their lines (S10.6), with the lexemes and wrong places of S1."""

import random
import unittest

from roundticks.console import Console
from roundticks.flat import flat
from roundticks.programs import Program
from roundticks.programtexts import program_text
from roundticks.rising import forced
from roundticks.sessions import Session
from roundticks.store import Store
from tests.case import LEG, TRIP, Case
from tests.oracle import lexemes_of
from tests.test_compiling import ODD
from tests.test_programtexts import FORM
from tests.test_store import A, committed

LEG_TEXT = "module leg {\ndoor p at 0 every 2;\ndoor q at 0 every 2;\npoint h at 1 every 3;\nrule p h 1;\nrule h q 1;\nrule q p -7;\n}\n"
TRIP_TEXT = "module trip {\ndoor a at 0 every 2;\npoint b at 4 every 2;\nchain 2 of leg from p to q as a to b;\nrule b a -12;\n}\n"
# The forms of the lines, state by state; a module ends a line.
LINES = {
    "line": {"put": "module", "drop": "one", "commit": "done", "back": "number", "fresh": "done", "mark": "one", "versions": "done", "at": "one",
             "modules": "done", "barred": "done", "show": "one", "table": "one", "lead": "l1", "early": "e1"},
    "module": {"module": "name"},
    "one": {"NAME": "done"},
    "number": {"NUMBER": "done"},
    "l1": {"NAME": "l2"},
    "l2": {"NAME": "l3"},
    "l3": {"NAME": "l4"},
    "l4": {"NUMBER": "done", "-": "l5"},
    "l5": {"COUNT": "done"},
    "e1": {"NAME": "places"},
    "places": {"NUMBER": "places", "-": "e2"},
    "e2": {"COUNT": "places"},
    "done": {},
}
STATES = {**FORM, **LINES, "items": {**FORM["items"], "}": "done"}}


def wrong_place(line):
    """The first wrong place of a line, or None."""
    found, wrong = lexemes_of(line)
    state = "line"
    for sort, lexeme, place in found:
        kinds = {"word": ["NAME"], "number": ["NUMBER"] + ["COUNT"] * (lexeme != "0"), "sign": []}[sort]
        told = [STATES[state][kind] for kind in [lexeme] + kinds if kind in STATES[state]]
        if not told:
            return place
        state = told[0]
    if wrong is not None:
        return wrong
    return None if state in ("done", "places") else len(line)


class ConsoleCase(Case):
    def begun(self, *modules):
        """A console of a store with modules."""
        store = Store()
        committed(store, *modules)
        return Console(store)

    def says(self, console, line, answer):
        """The answer to a line."""
        found = console.say(line)
        self.assertIs(type(found), str, line)
        self.assertEqual(found, answer, line)

    def state(self, console):
        """All that a line may change."""
        store, session = console.store(), console.session()
        versions = [store.program_at(k).modules() for k in range(store.version() + 1)]
        changed = [store.changed_since(k) for k in range(store.version() + 1)]
        marks = [(name, store.marked(name)) for name in store.marks()]
        return versions, changed, marks, session.base(), session.program().modules(), session.changed(), session.read()

    def refuses(self, console, line, answer):
        """A line is refused, each time with this answer, and changes nothing."""
        before = self.state(console)
        for _ in range(2):
            self.says(console, line, answer)
            self.assertEqual(self.state(console), before, line)


class Answers(ConsoleCase):
    def test_a_new_console(self):
        store = Store()
        committed(store, LEG)
        console = Console(store)
        self.assertIs(console.store(), store)
        session = console.session()
        self.assertIs(type(session), Session)
        self.assertIs(console.session(), session)
        self.assertIs(session.store(), store)
        self.assertEqual((session.base(), session.program(), session.changed(), session.read()), (1, Program([LEG]), [], []))
        self.assertIsNot(Console(store).session(), session)

    def test_put_and_drop(self):
        console = Console(Store())
        self.says(console, "put " + LEG_TEXT, "1")
        self.says(console, "put " + TRIP_TEXT, "2")
        self.says(console, "put module leg { door p at -6 every 2; door q at 0 every 2; }", "2")
        self.assertEqual(console.session().program(), Program([("leg", (("door", "p", -6, 2), ("door", "q", 0, 2))), TRIP]))
        self.assertEqual(console.session().changed(), ["leg", "trip"])
        self.says(console, "drop trip", "1")
        self.says(console, "drop leg", "0")
        self.assertEqual(console.session().program(), Program([]))
        self.says(console, "modules", "")
        self.says(console, "put module put { }", "1")

    def test_commit_versions_back_and_fresh(self):
        console = Console(Store())
        self.says(console, "versions", "0")
        self.says(console, "commit", "0")
        self.says(console, "put " + LEG_TEXT, "1")
        self.says(console, "versions", "0")
        self.says(console, "commit", "1")
        self.says(console, "versions", "1")
        self.assertEqual(console.store().program(), Program([LEG]))
        self.says(console, "commit", "1")
        self.says(console, "put module a { }", "2")
        self.says(console, "fresh", "1")
        self.says(console, "modules", "leg")
        self.says(console, "back 0", "2")
        # The session's program is that of its version still.
        self.says(console, "modules", "leg")
        self.says(console, "versions", "2")
        self.assertEqual(console.session().base(), 1)
        self.says(console, "fresh", "2")
        self.says(console, "modules", "")
        self.says(console, "back 1", "3")
        self.says(console, "back 3", "4")
        self.assertEqual(console.store().program(), Program([LEG]))
        # Another session of the same store.
        committed(console.store(), A)
        self.says(console, "versions", "5")
        self.says(console, "modules", "")
        self.says(console, "commit", "5")
        self.says(console, "modules", "leg a")

    def test_marks(self):
        console = self.begun(LEG)
        self.says(console, "mark one", "1")
        self.says(console, "put module a { }", "2")
        self.says(console, "mark again", "2")
        self.says(console, "commit", "2")
        self.says(console, "mark two", "3")
        self.says(console, "at one", "1")
        self.says(console, "at again", "1")
        self.says(console, "at two", "2")
        self.says(console, "mark one", "3")
        self.says(console, "at one", "2")
        self.assertEqual(console.store().marks(), ["one", "again", "two"])

    def test_names(self):
        console = self.begun(LEG, TRIP)
        self.says(console, "modules", "leg trip")
        self.says(console, "barred", "")
        self.says(console, "put " + program_text(Program([ODD])), "3")
        self.says(console, "put module user { door a at 0 every 2; door b at 0 every 2; use odd { q is a; p is b; } }", "4")
        self.says(console, "barred", "odd user")
        self.says(console, "modules", "leg trip odd user")
        self.says(console, "put module leg { door p at 0 every 2; door q at 0 every 2; point h at 1 every 3; rule p h 1; rule h q 1; rule q p -3; }", "4")
        self.says(console, "barred", "trip odd user")
        self.assertEqual(console.session().read(), [])

    def test_show(self):
        console = self.begun(LEG, TRIP)
        self.says(console, "show leg", LEG_TEXT)
        self.says(console, "show trip", TRIP_TEXT)
        self.assertEqual(console.session().read(), ["leg", "trip"])
        self.says(console, "put module m{use leg{q is a;p is a;}point a at-4 every 2;}", "3")
        self.says(console, "show m", "module m {\nuse leg {\nq is a;\np is a;\n}\npoint a at -4 every 2;\n}\n")
        self.says(console, "put module e{}", "4")
        self.says(console, "show e", "module e {\n}\n")
        # The text of a barred module is shown, too.
        self.says(console, "put " + program_text(Program([ODD])), "5")
        self.says(console, "show odd", program_text(Program([ODD])))

    def test_table(self):
        console = self.begun(LEG, TRIP)
        self.says(console, "table leg", "p p 0 2 4; p q 2 6 8; q p -6 -4 -2; q q 0 2 4")
        self.assertEqual(console.session().read(), ["leg"])
        self.says(console, "table trip", "a a 0 2 4")
        self.assertEqual(console.session().read(), ["leg", "trip"])
        self.says(console, "put module e { }", "3")
        self.says(console, "table e", "")
        self.says(console, "put module f { door b at 5 every 3; door a at -1 every 1; rule b a -7; }", "4")
        self.says(console, "table f", "b b 2; b a -5; a b none; a a 0 1 2")
        self.says(console, "put " + program_text(Program([ODD])), "5")
        self.says(console, "table odd", "barred")
        self.assertEqual(console.session().read(), ["e", "f", "leg", "odd", "trip"])

    def test_lead(self):
        console = self.begun(LEG, TRIP)
        for line, answer in [("lead leg p q 0", "2"), ("lead leg p q 2", "6"), ("lead leg p q 4", "8"), ("lead leg p q 6", "8"), ("lead leg p q -2", "2"), ("lead leg q p 0", "-6"),
                             ("lead leg p q - 6", "-4"), ("lead leg q q 10", "10"), ("lead leg p q 6" + "0" * 38, "6" + "0" * 37 + "2"), ("lead trip a a -600", "-600")]:
            self.says(console, line, answer)
        self.assertEqual(console.session().read(), ["leg", "trip"])
        self.says(console, "put module f { door b at 0 every 3; door a at 0 every 1; rule b a -7; }", "3")
        self.says(console, "lead f a b 0", "none")
        self.says(console, "lead f b a 0", "-7")
        self.says(console, "lead f b a 3", "-4")
        self.says(console, "put " + program_text(Program([ODD])), "4")
        self.says(console, "lead odd p q 0", "barred")
        self.assertEqual(console.session().read(), ["f", "leg", "odd", "trip"])

    def test_early(self):
        console = self.begun(LEG, TRIP)
        self.says(console, "early trip 0 0", "0 6")
        self.says(console, "early trip 1 -100", "2 8")
        self.says(console, "early trip 0 50", "38 50")
        self.assertEqual(console.session().read(), ["leg", "trip"])
        self.says(console, "early leg 0 0 0", "0 2 1")
        self.says(console, "early leg -5 -1 - 60", "-4 0 -2")
        self.says(console, "early leg 0 0 6" + "0" * 38, " ".join(str(v + 6 * 10 ** 38) for v in (-4, 2, 1)))
        self.says(console, "put module e { }", "3")
        self.says(console, "early e", "")
        self.says(console, "put " + program_text(Program([ODD])), "4")
        self.says(console, "early odd 0 0", "barred")
        self.assertEqual(console.session().read(), ["e", "leg", "odd", "trip"])

    def test_early_against_flat_networks(self):
        chance = random.Random(331)
        modules = [LEG, TRIP, ("m", (("point", "a", 0, 2), ("rule", "a", "b", 3), ("use", "leg", (("p", "a"), ("q", "c"))), ("door", "b", 1, 1), ("point", "c", 0, 2),
                                     ("chain", 5, "leg", "p", "q", "c", "d"), ("point", "d", -2, 2), ("rule", "d", "b", -40), ("rule", "b", "a", -60)))]
        console = self.begun(*modules)
        program = Program(modules)
        for name, items in modules:
            own = program.points(name)
            network = flat(program, name)
            for _ in range(30):
                floors = [chance.randint(-90, 90) for _ in own]
                told = forced(network, floors + [None] * (len(network.names()) - len(own)))
                self.says(console, f"early {name} " + " ".join(str(floor) for floor in floors), " ".join(str(number) for number in told[:len(own)]))

    def test_early_at_200_points(self):
        doors = "door a at 0 every 2; door b at 0 every 2;"
        console = self.begun(LEG)
        self.says(console, "put module m {" + doors + "chain 99 of leg from p to q as a to b; point x at 0 every 1; }", "2")
        # 99 copies take 0 to 2, 2 to 6, 6 to 8, and so on.
        self.says(console, "early m 0 0 7", "0 296 7")
        self.says(console, "put module m {" + doors + "chain 99 of leg from p to q as a to b; point x at 0 every 1; point y at 0 every 1; }", "2")
        self.refuses(console, "early m 0 0 7 8", "no TooGreat")
        self.refuses(console, "early m 0 0 7", "no NoWay")


class Gaps(ConsoleCase):
    def test_blanks_and_line_feeds(self):
        console = self.begun(LEG, TRIP)
        for line, answer in [("  versions", "1"), ("versions \n ", "1"), ("\n\nversions\n", "1"), ("table\nleg", "p p 0 2 4; p q 2 6 8; q p -6 -4 -2; q q 0 2 4"),
                             ("lead   leg\np  q\n-\n2 ", "2"), (" early trip 0 \n - 100", "0 6"), ("early\ntrip 0 0", "0 6"), ("put module\ne\n{\n}\n", "3"), ("put module e{}", "3"), ("put  module e {   }  ", "3"),
                             ("lead leg p q-2", "2"), ("early trip-4-2", "-4 2"), ("early trip 0-2", "0 6"), ("back 1\n", "2"), ("modules\n \n", "leg trip e")]:
            self.says(console, line, answer)
        self.says(console, "early leg 00-6", "0 2 1")
        self.says(console, "back01", "no BadText 0")


class Refused(ConsoleCase):
    def test_unknown_names(self):
        console = self.begun(LEG)
        self.says(console, "put " + program_text(Program([ODD])), "2")
        for line in ("drop trip", "show trip", "table trip", "at one", "lead trip p q 0", "early trip 0 0", "early trip", "lead trip p q 1", "lead leg p r 0", "lead leg r q 1",
                     "lead leg h p 1", "lead leg p h 0", "lead odd p r 1", "lead odd r p 0"):
            self.refuses(console, line, "no UnknownName")
        self.says(console, "mark one", "1")
        self.refuses(console, "at two", "no UnknownName")

    def test_no_way(self):
        console = self.begun(LEG, TRIP)
        self.says(console, "put " + program_text(Program([ODD])), "3")
        self.says(console, "put module f { door b at 0 every 3; door a at 0 every 1; }", "4")
        for line in ("back 2", "back " + "9" * 40, "lead leg p q 1", "lead leg p q -1", "lead leg q p 3", "lead f b a 1", "lead odd p q 1",
                     "early leg 0 0", "early leg 0 0 0 0", "early leg", "early odd 0", "early odd 0 0 0", "early trip 0 0 0"):
            self.refuses(console, line, "no NoWay")
        # Errors come ahead of barred, and barred ahead of none.
        self.says(console, "put module g { door a at 0 every 2; door b at 0 every 2; rule a a 1; }", "5")
        self.says(console, "lead g a b 0", "barred")
        self.refuses(console, "lead g a b 1", "no NoWay")
        self.refuses(console, "lead g a c 1", "no UnknownName")
        self.says(console, "early g 0 0", "barred")

    def test_too_great(self):
        console = self.begun(LEG)
        self.says(console, "put module m { point a at 0 every 2; point b at 0 every 2; chain 101 of leg from p to q as a to b; }", "2")
        self.refuses(console, "early m 0 0", "no TooGreat")
        self.refuses(console, "early m 0", "no NoWay")
        self.refuses(console, "early n 0", "no UnknownName")
        # Ahead of barred.
        self.says(console, "put module m { point a at 0 every 2; point b at 0 every 2; chain 1000000000000000000 of leg from p to q as a to b; rule b a 0; }", "2")
        self.says(console, "barred", "m")
        self.refuses(console, "early m 0 0", "no TooGreat")
        self.says(console, "table m", "barred")

    def test_programs(self):
        console = self.begun(LEG, TRIP)
        for line in ("drop leg", "put module leg { }", "put module m { use none { } }", "put module m { point a at 0 every 61; }", "put module m { rule a a 0; }",
                     "put module leg { door p at 0 every 2; door q at 1 every 2; }", "put module m { point a at 0 every 1; point a at 0 every 1; }",
                     "put module m { chain 1000000000000000001 of leg from p to q as a to a; point a at 0 every 2; }"):
            self.refuses(console, line, "no BadProgram")

    def test_commits(self):
        console = self.begun(LEG, TRIP)
        self.says(console, "put module leg { door p at 0 every 2; door q at 0 every 2; point h at 1 every 3; rule p h 1; rule h q 1; rule q p -3; }", "2")
        self.refuses(console, "commit", "no BadAct barred")
        console.session().table("trip")
        committed(console.store(), TRIP)
        self.refuses(console, "commit", "no Conflict trip")
        self.says(console, "fresh", "2")
        self.says(console, "put module m { point a at 0 every 2; use leg { p is a; q is b; } point b at 0 every 2; }", "3")
        committed(console.store(), "trip", "leg")
        self.refuses(console, "commit", "no BadProgram")
        self.says(console, "put module m { point a at 0 every 2; }", "3")
        self.says(console, "commit", "4")
        self.says(console, "modules", "m")

    def test_conflicts_by_what_a_line_read(self):
        for line in ("show trip", "table trip", "lead trip a a 0", "early trip 0 0"):
            console = self.begun(LEG, TRIP)
            console.say(line)
            self.assertEqual(console.session().read(), ["leg", "trip"])
            committed(console.store(), LEG)
            self.refuses(console, "commit", "no Conflict leg")
        for line in ("modules", "barred", "versions", "mark a", "lead trip b a 0", "lead trip a a 1", "early trip 0", "back 1", "show x", "put module m { use trip { a is x; } door x at 0 every 2; }"):
            console = self.begun(LEG, TRIP)
            console.say(line)
            self.assertEqual(console.session().read(), [])
            committed(console.store(), LEG)
            self.assertEqual(console.say("commit"), str(console.store().version()))

    def test_a_line_is_read_completely_first(self):
        console = self.begun(LEG, TRIP)
        for line in ("commit x", "drop leg x", "drop nothing !", "back 0 0", "fresh -", "mark m 1", "put " + LEG_TEXT + ";", "table none none", "lead none p q 0 0", "show leg leg",
                     "early none 0 x", "early none -", "versions!", "modules \t", "barred }"):
            self.refuses(console, line, f"no BadText {wrong_place(line)}")


class Places(ConsoleCase):
    WHOLE = ["put " + LEG_TEXT, "put " + TRIP_TEXT, "put module m { use leg { p is a; q is b; } }", "put module put{}", "drop leg", "drop drop", "commit", "back 0", "back 12", "fresh", "mark one",
             "mark mark", "versions", "at one", "modules", "barred", "show leg", "table leg", "lead leg p q 0", "lead leg p q -12", "lead lead lead lead 7", "early leg", "early leg 0 -4 6", "early early 0"]

    def check(self, console, line):
        """A line with a wrong place is refused there; returns whether it has one."""
        place = wrong_place(line)
        if place is None:
            return False
        self.says(console, line, f"no BadText {place}")
        return True

    def test_the_first_wrong_place_of_each_form(self):
        console = self.begun(LEG, TRIP)
        before = self.state(console)
        more = ["", " ", "x", "0", "1", "-", "{", "}", ";", "!", "A", "abcdefghijklm", "\t", "-0", "- 5", "module", "put", "12ab", "007"]
        for line in self.WHOLE:
            self.assertIsNone(wrong_place(line), line)
            found, _ = lexemes_of(line)
            ends = [place + len(lexeme) for _, lexeme, place in found]
            for end in [0] + ends:
                # Cut off, with one lexeme more, with one other than it should be, and without one.
                for lexeme in more:
                    for gap in (" ", "\n", ""):
                        self.check(console, line[:end] + gap + lexeme)
                        self.check(console, line[:end] + gap + lexeme + gap + line[end:])
            for _, lexeme, place in found:
                self.check(console, line[:place] + line[place + len(lexeme):])
            self.check(console, line[:-1])
        self.assertEqual(self.state(console), before)

    def test_lines_that_are_refused_change_nothing(self):
        console = self.begun(LEG, TRIP)
        self.says(console, "put module a { }", "3")
        before = self.state(console)
        for line in self.WHOLE:
            for more in ("!", " }", " }\n", ";", " A", " -", "\t"):
                self.assertTrue(self.check(console, line + more))
            for more in ("! ", "} ", "A ", "0 ", "", "modules "):
                self.check(console, more + line[1:])
            self.assertEqual(self.state(console), before)

    def test_some_places(self):
        console = self.begun(LEG, TRIP)
        for line, place in [("", 0), (" ", 1), ("\n\n", 2), ("x", 0), (" x", 1), ("put", 3), ("put ", 4), ("put leg", 4), ("put module", 10), ("put module 5", 11), ("put module m", 12), ("put module m }", 13),
                            ("put module m {", 14), ("put module m { } }", 17), ("put module m { } module n { }", 17), ("drop", 4), ("drop 5", 5), ("drop a b", 7), ("commit commit", 7), ("back", 4), ("back -1", 5),
                            ("back a", 5), ("back 01", 6), ("back 007", 6), ("fresh 0", 6), ("mark", 4), ("mark A", 5), ("mark abcdefghijklm", 5), ("versions versions", 9), ("at", 2), ("modules;", 7), ("barred {", 7),
                            ("show", 4), ("show -", 5), ("table leg leg", 10), ("lead leg p q", 12), ("lead leg p q -", 14), ("lead leg p q -0", 14), ("lead leg p q - 0", 15), ("lead leg p q x", 13), ("lead leg p q 0 0", 15),
                            ("lead leg p q 5p", 14), ("lead leg p 0", 11), ("early", 5), ("early 0", 6), ("early leg 0 x", 12), ("early leg 0 -", 13), ("early leg -0", 11), ("early leg 0 - -1", 14), ("early leg 0 ! 0", 12),
                            ("Put", 0), ("!", 0), ("versions\t", 8), ("\tversions", 0), ("5", 0), ("{", 0), ("put module m { point a at 0 every 0; }", 34)]:
            self.assertEqual(wrong_place(line), place, line)
            self.refuses(console, line, f"no BadText {place}")


if __name__ == "__main__":
    unittest.main()
