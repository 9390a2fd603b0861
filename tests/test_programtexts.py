"""Texts of programs: what is written, what is read, and the first wrong place (S6.3, S1.4, S1.5)."""

import random
import unittest

from roundticks.errors import BadProgram, BadText
from roundticks.programs import Program
from roundticks.programtexts import program_text, read_program
from tests.case import LEG, TRIP, Case
from tests.oracle import lexemes_of

WRITTEN = """module leg {
door p at 0 every 2;
door q at 0 every 2;
point h at 1 every 3;
rule p h 1;
rule h q 1;
rule q p -7;
}
module trip {
door a at 0 every 2;
point b at 4 every 2;
chain 2 of leg from p to q as a to b;
rule b a -12;
}
"""
USING = """module bare {
}
module m {
use bare {
}
use leg {
q is a;
p is b;
}
point a at -8 every 2;
door b at 0 every 2;
}
"""
# Names that stand in the form.
ODD = """module module {
door door at 0 every 2;
door is at 0 every 2;
point point at 0 every 2;
rule rule is 0;
point rule at 1 every 1;
}
module use {
use module {
is is to;
door is at;
}
chain 1 of module from door to is as at to to;
rule at to -1;
point at at 0 every 2;
point to at 0 every 2;
}
module every {
}
"""
TEXTS = [WRITTEN, USING.replace("module m {", "module leg {\ndoor p at 0 every 2;\ndoor q at 0 every 2;\n}\nmodule m {"), ODD, "", " \n ",
         "module a{}", "module\n\na\n{\n}\n", "module a{door b at-5every 60;}", "module a { point b at - 12 every 7 ; } module c { use a { } }"]
# The form of a text of a program, state by state: what may come next, and the state then.
FORM = {
    "modules": {"module": "name"},
    "name": {"NAME": "open"},
    "open": {"{": "items"},
    "items": {"door": "p1", "point": "p1", "rule": "r1", "use": "u1", "chain": "c1", "}": "modules"},
    "p1": {"NAME": "p2"},
    "p2": {"at": "p3"},
    "p3": {"NUMBER": "p5", "-": "p4"},
    "p4": {"COUNT": "p5"},
    "p5": {"every": "p6"},
    "p6": {"COUNT": "end"},
    "end": {";": "items"},
    "r1": {"NAME": "r2"},
    "r2": {"NAME": "r3"},
    "r3": {"NUMBER": "end", "-": "r4"},
    "r4": {"COUNT": "end"},
    "u1": {"NAME": "u2"},
    "u2": {"{": "joins"},
    "joins": {"NAME": "j1", "}": "items"},
    "j1": {"is": "j2"},
    "j2": {"NAME": "j3"},
    "j3": {";": "joins"},
    "c1": {"COUNT": "c2"},
    "c2": {"of": "c3"},
    "c3": {"NAME": "c4"},
    "c4": {"from": "c5"},
    "c5": {"NAME": "c6"},
    "c6": {"to": "c7"},
    "c7": {"NAME": "c8"},
    "c8": {"as": "c9"},
    "c9": {"NAME": "c10"},
    "c10": {"to": "c11"},
    "c11": {"NAME": "end"},
}


def next_state(state, sort, lexeme):
    kinds = {"word": ["NAME"], "number": ["NUMBER"] + ["COUNT"] * (lexeme != "0"), "sign": []}[sort]
    for kind in [lexeme] + kinds:
        if kind in FORM[state]:
            return FORM[state][kind]
    return None


def wrong_place(text):
    """The first wrong place of a text, or None."""
    found, wrong = lexemes_of(text)
    state = "modules"
    for sort, lexeme, place in found:
        state = next_state(state, sort, lexeme)
        if state is None:
            return place
    if wrong is not None:
        return wrong
    return None if state == "modules" else len(text)


class Written(Case):
    def test_the_example(self):
        self.tells(WRITTEN, program_text, Program([LEG, TRIP]))

    def test_no_modules(self):
        self.tells("", program_text, Program([]))
        self.tells("module a {\n}\n", program_text, Program([("a", ())]))

    def test_each_sort_of_item(self):
        part = ("part", (("door", "p", -4, 2), ("door", "q", 10 ** 30, 2)))
        text = f"module part {{\ndoor p at -4 every 2;\ndoor q at {10 ** 30} every 2;\n}}\n"
        self.tells(text, program_text, Program([part]))
        points = (("door", "a", 0, 2), ("point", "b", -10 ** 30, 2))
        begin = f"module m {{\ndoor a at 0 every 2;\npoint b at -{10 ** 30} every 2;\n"
        for item, line in [(("rule", "a", "b", 0), "rule a b 0;\n"), (("rule", "b", "b", -1), "rule b b -1;\n"),
                           (("rule", "b", "a", 10 ** 30), f"rule b a {10 ** 30};\n"),
                           (("use", "part", (("q", "a"), ("p", "b"))), "use part {\nq is a;\np is b;\n}\n"),
                           (("use", "part", (("p", "b"), ("q", "b"))), "use part {\np is b;\nq is b;\n}\n"),
                           (("chain", 1, "part", "p", "q", "a", "b"), "chain 1 of part from p to q as a to b;\n"),
                           (("chain", 10 ** 18, "part", "q", "p", "b", "b"), f"chain {10 ** 18} of part from q to p as b to b;\n")]:
            program = Program([part, ("m", points + (item,))])
            self.tells(text + begin + line + "}\n", program_text, program)
            self.assertEqual(read_program(text + begin + line + "}\n"), program)

    def test_use_of_a_module_without_doors(self):
        self.tells("module a {\n}\nmodule b {\nuse a {\n}\n}\n", program_text, Program([("a", ()), ("b", (("use", "a", ()),))]))

    def test_texts_as_they_are_written(self):
        for text in (WRITTEN, TEXTS[1], ODD, ""):
            self.tells(text, program_text, read_program(text))

    def test_what_is_written_is_read(self):
        chance = random.Random(91)
        words = ["a", "b1", "module", "door", "point", "rule", "use", "chain", "of", "from", "to", "as", "is", "at", "every", "abcdefghijkl"]
        for _ in range(100):
            modules = []
            for name in chance.sample(words, 4):
                points = chance.sample(words, 4)
                items = [(chance.choice(["door", "point"]), point, chance.choice([0, 8, -8, 10 ** 30, -10 ** 30]), 2) for point in points]
                items += [("rule", *chance.choices(points, k=2), chance.choice([0, 5, -5, 10 ** 30, -10 ** 30])) for _ in range(3)]
                for used, told in modules:
                    doors = [item[1] for item in told if item[0] == "door"]
                    items.append(("use", used, tuple((door, chance.choice(points)) for door in doors)))
                    if len(doors) > 1:
                        items.append(("chain", chance.randint(1, 10 ** 18), used, *chance.sample(doors, 2), *chance.choices(points, k=2)))
                chance.shuffle(items)
                modules.append((name, tuple(items)))
            program = Program(modules)
            text = self.told(program_text, program)
            self.tells(program, read_program, text)
            self.assertIsNone(wrong_place(text))
            self.assertEqual([line for line in text.split("\n") if line != line.strip()], [])


class Read(Case):
    def test_texts(self):
        self.tells(Program([LEG, TRIP]), read_program, WRITTEN)
        for text in ("", " ", "\n", " \n\n  "):
            self.tells(Program([]), read_program, text)
        self.tells(Program([("a", (("door", "b", -5, 60),))]), read_program, "module a{door b at-5every 60;}")
        use = (("use", "module", (("is", "to"), ("door", "at"))), ("chain", 1, "module", "door", "is", "at", "to"),
               ("rule", "at", "to", -1), ("point", "at", 0, 2), ("point", "to", 0, 2))
        self.assertEqual(read_program(ODD).module("use"), ("use", use))

    def test_any_gaps(self):
        chance = random.Random(92)
        for text in TEXTS:
            expected = read_program(text)
            found, _ = lexemes_of(text)
            for _ in range(10):
                told = ""
                for k, (sort, lexeme, _) in enumerate(found):
                    is_apart = k > 0 and "sign" in (sort, found[k - 1][0])
                    told += "".join(chance.choices(" \n", k=chance.randint(0 if is_apart or k == 0 else 1, 3))) + lexeme
                self.tells(expected, read_program, told + chance.choice(["", " ", "\n\n"]))

    def test_numbers_with_40_digits(self):
        great = 10 ** 40 - 1
        program = Program([("a", (("door", "b", great, 60), ("point", "c", -great, 1), ("rule", "b", "c", -great), ("rule", "b", "c", great)))])
        self.tells(program, read_program, program_text(program))
        for text, path in [(f"module a {{ door b at 0 every {great}; }}", (0, 1, 0, 3)), ("module a { door b at 0 every 61; }", (0, 1, 0, 3)),
                           (f"module l {{ door p at 0 every 1; door q at 0 every 1; }} module a {{ chain {great} of l from p to q as x to x; }}",
                            (1, 1, 0, 1)), (f"module a {{ chain {10 ** 18 + 1} of a from p to q as x to x; }}", (0, 1, 0, 1))]:
            self.refused(BadProgram, {"path": path}, read_program, text)


class Refused(Case):
    def wrong(self, place, text):
        self.assertEqual(wrong_place(text), place, text[:200])
        self.refused(BadText, {"place": place}, read_program, text)

    def test_each_place_of_each_form(self):
        others = ["module", "door", "rule", "use", "chain", "at", "every", "is", "of", "from", "to", "as", "xyz", "{", "}", ";", "-", "0", "7", "12ab"]
        for text in TEXTS:
            found, _ = lexemes_of(text)
            for _, lexeme, place in found:
                for other in others + ["!", "\t", "abcdefghijklm", "A", "_"]:
                    behind = text[place + len(lexeme):]
                    for told in (text[:place] + " " + other + " " + behind, text[:place] + " " + other + " " + text[place:]):
                        expected = wrong_place(told)
                        if expected is not None:
                            self.wrong(expected, told)
                told = text[:place]
                if wrong_place(told) is not None:
                    self.wrong(len(told), told)
                    self.wrong(len(told) + 2, told + " \n")

    def test_texts_that_are_not_complete(self):
        for text in TEXTS:
            for end in range(len(text)):
                expected = wrong_place(text[:end])
                if expected is not None:
                    self.wrong(expected, text[:end])

    def test_texts_with_a_lexeme_too_few(self):
        for text in TEXTS:
            found, _ = lexemes_of(text)
            for _, lexeme, place in found:
                told = text[:place] + text[place + len(lexeme):]
                expected = wrong_place(told)
                if expected is not None:
                    self.wrong(expected, told)

    def test_items(self):
        for begin in ("module a {", "module a { door b at 0 every 1;", "module a { use b { }"):
            for told in ("x", "module", "is", "0", ";", "{", "-", "points"):
                self.wrong(len(begin) + 1, begin + " " + told + " }")
        self.wrong(0, "network { }")
        self.wrong(11, "module a { 5 }")
        self.wrong(13, "module a { } }")
        self.wrong(13, "module a { } x")
        self.wrong(13, "module a { } door b at 0 every 1;")

    def test_numbers_that_are_0(self):
        self.wrong(30, "module a { door b at 0  every 0; }")
        self.wrong(17, "module a { chain 0 of b from c to d as e to f; }")
        self.wrong(17, "module a { chain 00 of b from c to d as e to f; }")
        self.wrong(17, "module a { chain -1 of b from c to d as e to f; }")
        self.wrong(19, "module a { chain 1 0 of b from c to d as e to f; }")
        self.wrong(22, "module a { door b at -0 every 1; }")
        self.wrong(22, "module a { door b at 00 every 1; }")
        self.wrong(22, "module a { door b at 0!every 1; }")
        self.wrong(21, "module a { rule b c -05; }")
        self.wrong(21, "module a { rule b c 05; }")
        self.wrong(21, "module a { rule b c --5; }")

    def test_names(self):
        for told in ("0", "7a", "-", ";", "{", "}", "!", "A", "abcdefghijklm"):
            self.wrong(7, f"module {told} {{ }}")
            self.wrong(16, f"module a {{ door {told} at 0 every 1; }}")
            self.wrong(16, f"module a {{ rule {told} b 0; }}")
            self.wrong(18, f"module a {{ rule b {told} 0; }}")
            self.wrong(15, f"module a {{ use {told} {{ }} }}")
            self.wrong(24, f"module a {{ use b {{ c is {told}; }} }}")
        for told in ("0", "7a", "-", ";", "{", "!", "A", "abcdefghijklm"):
            self.wrong(19, f"module a {{ use b {{ {told} is d; }} }}")

    def test_signs_that_begin_no_lexeme(self):
        for sign in "!#$&()*+,./:<=>?@[]^_`|~\"'\\\tABZ":
            self.wrong(0, sign)
            self.wrong(3, "\n \n" + sign + " module")
            self.wrong(len(WRITTEN), WRITTEN + sign)
            self.wrong(7, f"module {sign}")
            self.wrong(12, f"module a {{ }}{sign}")
            # A wrong lexeme ahead of it is told first; one behind it is not.
            self.wrong(9, f"module a 5 {sign}")
            self.wrong(9, f"module a {sign} 5")

    def test_the_end(self):
        self.wrong(6, "module")
        self.wrong(10, "module a {")
        self.wrong(13, "module a { \n ")
        self.wrong(30, "module a { door b at 0 every 1")
        self.wrong(32, "module a { door b at 0 every 1;\n")
        self.wrong(20, "module a { use b { }")

    def test_numbers_of_any_length_behind_a_wrong_place(self):
        long = "1" * 5000
        self.wrong(7, f"module {long}")
        self.wrong(0, f"module2 {long}")
        self.wrong(11, f"module a {{ x {long}; rule {long} }}")
        self.wrong(29, f"module a {{ door b at 0 every 0 {long}; }}")

    def test_by_chance(self):
        chance = random.Random(93)
        signs = [" ", "\n", "{", "}", ";", "-", "0", "1", "a", "module a {", "door b at 0 every 1;", "rule", "use a {", "is", "!", "\t"]
        wrong = 0
        for _ in range(1500):
            text = chance.choice(TEXTS)
            for _ in range(chance.randint(1, 3)):
                place = chance.randint(0, len(text))
                text = text[:place] + chance.choice(signs) + text[place + chance.randint(0, 3):]
            expected = wrong_place(text)
            if expected is not None:
                wrong += 1
                self.wrong(expected, text)
        self.assertGreater(wrong, 500)


class NoPrograms(Case):
    def test_what_texts_tell(self):
        for text, path in [("module a { } module a { }", (1, 0)), ("module a { rule b c 0; }", (0, 1, 0, 1)),
                           ("module a { door b at 0 every 61; }", (0, 1, 0, 3)), ("module a { use a { } }", (0, 1, 0, 1)),
                           ("module a { use b { } } module b { }", (0, 1, 0, 1)), ("module a { point b at 0 every 1; door b at 0 every 1; }", (0, 1, 1, 1)),
                           ("module a { door p at 0 every 1; } module b { use a { } }", (1, 1, 0, 2)),
                           ("module a { door p at 0 every 1; } module b { point q at 0 every 2; use a { p is q; } }", (1, 1, 1, 2, 0, 1)),
                           ("module a { door p at 0 every 1; } module b { use a { p is q; } }", (1, 1, 0, 2, 0, 1)),
                           ("module a { door p at 0 every 1; } module b { use a { q is q; } }", (1, 1, 0, 2, 0, 0)),
                           ("module a { door p at 0 every 1; } module b { chain 1 of a from p to p as p to p; }", (1, 1, 0, 4))]:
            self.refused(BadProgram, {"path": path}, read_program, text)

    def test_a_wrong_place_is_told_ahead_of_what_the_text_tells(self):
        for text in ("module a { } module a { }", "module a { rule b c 0; }", "module a { door b at 0 every 61; }", "module a { use a { } }"):
            for more in ("!", "x", "}", "0"):
                self.refused(BadText, {"place": len(text) + 1}, read_program, text + " " + more)
            self.refused(BadText, {"place": len(text) - 1}, read_program, text[:-1])


if __name__ == "__main__":
    unittest.main()
