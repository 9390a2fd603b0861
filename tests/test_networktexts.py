"""Texts of networks: what is written, what is read, and the first wrong place."""

import random
import unittest

from roundticks.errors import BadNetwork, BadText
from roundticks.networks import Network
from roundticks.networktexts import network_text, read_network
from tests.case import Case, sample
from tests.oracle import lexemes_of

WRITTEN = """network {
point a at 0 every 1;
point b at 1 every 2;
point c at 0 every 3;
rule a b 2;
rule b c 1;
rule c a -6;
}
"""
TEXTS = [
    WRITTEN,
    "network { }",
    "network{point a at-5every 60;}",
    "\n network { point rule at - 12 every 7 ; rule rule rule - 1 ; rule rule rule 0 ; } \n",
    "network {point a at 0 every 1;point a at 0 every 61;rule x a 00}",
    "network {point a at 0 every 1; rule a a -10; rule a x 5;}",
]
# The form of a text of a network, state by state: what may come next, and the state then.
FORM = {
    "start": {"network": "name"},
    "name": {"{": "points"},
    "points": {"point": "p1", "rule": "r1", "}": "end"},
    "p1": {"NAME": "p2"},
    "p2": {"at": "p3"},
    "p3": {"NUMBER": "p5", "-": "p4"},
    "p4": {"COUNT": "p5"},
    "p5": {"every": "p6"},
    "p6": {"COUNT": "p7"},
    "p7": {";": "points"},
    "rules": {"rule": "r1", "}": "end"},
    "r1": {"NAME": "r2"},
    "r2": {"NAME": "r3"},
    "r3": {"NUMBER": "r5", "-": "r4"},
    "r4": {"COUNT": "r5"},
    "r5": {";": "rules"},
    "end": {},
}


def next_state(state, sort, lexeme):
    kinds = {"word": ["NAME"], "number": ["NUMBER"] + ["COUNT"] * (lexeme != "0"), "sign": []}[sort]
    for kind in [lexeme] + kinds:
        if kind in FORM[state]:
            return FORM[state][kind]
    return None


def wrong_place(text):
    """The first wrong place of a text, or None."""
    found, wrong = lexemes_of(text)
    state = "start"
    for sort, lexeme, place in found:
        state = next_state(state, sort, lexeme)
        if state is None:
            return place
    if wrong is not None:
        return wrong
    return None if state == "end" else len(text)


def parts_of(text):
    """The points and rules that a text of the form tells."""
    points, rules = [], []
    for part in "".join(text.split("{")[1]).split("}")[0].split(";")[:-1]:
        words = [lexeme for _, lexeme, _ in lexemes_of(part)[0]]
        while "-" in words:
            k = words.index("-")
            words[k:k + 2] = ["-" + words[k + 1]]
        if words[0] == "point":
            points.append((words[1], int(words[3]), int(words[5])))
        else:
            rules.append((words[1], words[2], int(words[3])))
    return points, rules


class Written(Case):
    def test_the_example(self):
        self.tells(WRITTEN, network_text, sample())
        self.tells("network {\n}\n", network_text, Network([], []))

    def test_numbers(self):
        points = [("a", -5, 60), ("network", 10 ** 30, 1), ("z9", -10 ** 30, 12)]
        rules = [("a", "a", 0), ("z9", "a", -10 ** 30), ("a", "network", 10 ** 30)]
        great = "1" + "0" * 30
        lines = ["network {", "point a at -5 every 60;", f"point network at {great} every 1;",
                 f"point z9 at -{great} every 12;", "rule a a 0;", f"rule z9 a -{great};", f"rule a network {great};",
                 "}", ""]
        self.tells("\n".join(lines), network_text, Network(points, rules))

    def test_what_is_written_is_read(self):
        chance = random.Random(11)
        for _ in range(100):
            names = chance.sample(["a", "b1", "point", "rule", "network", "at", "every", "abcdefghijkl"], 4)
            points = [(name, chance.choice([0, 5, -5, 10 ** 30, -10 ** 30]), chance.randint(1, 60)) for name in names]
            rules = [(chance.choice(names), chance.choice(names), chance.choice([0, 1, -1, 10 ** 30, -10 ** 30]))
                     for _ in range(chance.randint(0, 6))]
            network = Network(points, rules)
            text = self.told(network_text, network)
            self.assertEqual(shape_of(self.told(read_network, text)), (points, rules))
            self.assertEqual(read_network(text), network)
            self.assertEqual(network_text(read_network(text)), text)


def shape_of(network):
    return network.points(), network.rules()


class Read(Case):
    def reads(self, text):
        """The text is read, or refused, as the form tells."""
        wrong = wrong_place(text)
        if wrong is not None:
            self.refused(BadText, {"place": wrong}, read_network, text)
            return
        points, rules = parts_of(text)
        try:
            network = Network(points, rules)
        except BadNetwork as found:
            self.refused(BadNetwork, {"path": found.path}, read_network, text)
            return
        self.tells(network, read_network, text)

    def test_the_example(self):
        self.tells(sample(), read_network, WRITTEN)
        self.tells(Network([], []), read_network, "network { }")

    def test_wrong_places_by_hand(self):
        for text, place in [("network { 1", 10), ("network { } !", 12), ("network { rule a b -05;", 20),
                            ("network { point a at 0 every 0;", 29), ("", 0), (" \n ", 3), ("network", 7),
                            ("network ", 8), ("network {\n", 10), ("network { } }", 12), ("network { } network", 12),
                            ("!", 0), (" !", 1), ("net", 0), ("network {!", 9), ("network ! {", 8),
                            ("network { point 5 !", 16), ("network { ! point 5", 10), ("network { point ! 5", 16),
                            ("network { point a at -0", 22), ("network { point a at - ", 23),
                            ("network { point a at 00 every 1; }", 22), ("network { point a at 05 every 1; }", 22),
                            ("network { point a at 0 every 01; }", 29), ("network { point a at 0 every -1; }", 29),
                            ("network { rule a a 0; point a at 0 every 1; }", 22), ("network { rule a 5; }", 17),
                            ("network { rule a b --1; }", 20), ("network { rule a b 1 }", 21),
                            ("network { point abcdefghijklm at", 16), ("network { pointa at 0", 10),
                            ("network { point a at0 every", 18), ("Network { }", 0), ("network { };", 11),
                            ("network\t{ }", 7), ("network { }\t", 11), ("{ }", 0), ("network { point a at 0", 22)]:
            self.refused(BadText, {"place": place}, read_network, text)
            self.assertEqual(wrong_place(text), place)

    def test_a_wrong_sign_behind_what_is_complete(self):
        for behind in ("!", "\t", "A", "abcdefghijklm", "$ 5"):
            self.refused(BadText, {"place": len(WRITTEN)}, read_network, WRITTEN + behind)
            self.refused(BadText, {"place": len(WRITTEN) + 3}, read_network, WRITTEN + " \n " + behind)

    def test_texts_cut_off(self):
        for text in TEXTS:
            for sort, lexeme, place in lexemes_of(text)[0]:
                for behind in ("", " ", "\n \n", "!", " !"):
                    self.reads(text[:place + len(lexeme)] + behind)
                    self.reads(text[:place] + behind)

    def test_all_beginnings(self):
        for text in TEXTS:
            for k in range(len(text) + 1):
                self.reads(text[:k])

    def test_lexemes_left_out_put_in_and_exchanged(self):
        others = ["network", "point", "rule", "at", "every", "a", "zz", "0", "1", "12", "61", "-", "{", "}", ";", "- 0", "!"]
        for text in TEXTS:
            for _, lexeme, place in lexemes_of(text)[0]:
                ahead, behind = text[:place], text[place + len(lexeme):]
                self.reads(ahead + " " + behind)
                for other in others:
                    self.reads(f"{ahead} {other} {behind}")
                    self.reads(f"{ahead} {other} {lexeme}{behind}")

    def test_wrong_signs_everywhere(self):
        for text in TEXTS + ["network { point a at 0 every 0; rule", "network { rule a b ; }", "network { } }"]:
            for k in range(len(text) + 1):
                for sign in ("!", "\t", "Z", "_", " abcdefghijklm "):
                    self.reads(text[:k] + sign + text[k:])

    def test_texts_by_chance(self):
        chance = random.Random(3)
        pool = ["network {", "point", "rule", "a", "at", "every", "0", "5", "-", ";", "}", "point a at 0 every 1;",
                "rule a a 0;", "point b at -3 every 7;", "rule a b -1;", "{", "!"]
        for _ in range(1500):
            pieces = [chance.choice(pool) for _ in range(chance.randint(0, 7))]
            self.reads("network {" * chance.randint(0, 1) + chance.choice([" ", "", "\n"]).join(pieces))


class Gaps(Case):
    def joined(self, text, gaps):
        """The lexemes of a text with other gaps between them, and at least one blank where one is needed."""
        pieces = []
        before = "sign"
        for k, (sort, lexeme, _) in enumerate(lexemes_of(text)[0]):
            needed = before != "sign" and sort != "sign" and not (before == "number" and sort == "word")
            pieces += [gaps[k % len(gaps)] or " " * needed, lexeme]
            before = sort
        return "".join(pieces)

    def test_other_gaps(self):
        points = [("a", -5, 60), ("rule", 0, 1), ("b2", 17, 9)]
        rules = [("a", "rule", -1), ("rule", "a", 0), ("b2", "b2", 12)]
        network = Network(points, rules)
        text = network_text(network)
        for gaps in ([""], [" "], ["\n"], ["   "], ["\n\n"], ["", " ", "\n"], [" \n ", ""], ["\n", "", " ", ""]):
            for ahead in ("", " ", "\n \n"):
                for behind in ("", " ", "\n", "\n\n "):
                    self.tells(network, read_network, ahead + self.joined(text, gaps) + behind)

    def test_no_gaps(self):
        self.tells(Network([("a", -5, 60)], [("a", "a", -1)]), read_network,
                   "network{point a at-5every 60;rule a a-1;}")
        self.tells(Network([("b", 0, 7)], []), read_network, "network{point b at 0every 7;}")


class Names(Case):
    def test_words_of_the_form_as_names(self):
        text = """network { point point at 0 every 1; point at at 1 every 2; point every at 2 every 3;
                  point rule at 3 every 4; point network at 4 every 5;
                  rule rule point 1; rule point at -1; rule at every 0; rule network network 3; }"""
        points = [("point", 0, 1), ("at", 1, 2), ("every", 2, 3), ("rule", 3, 4), ("network", 4, 5)]
        rules = [("rule", "point", 1), ("point", "at", -1), ("at", "every", 0), ("network", "network", 3)]
        self.tells(Network(points, rules), read_network, text)

    def test_names_of_12_characters(self):
        self.tells(Network([("abcdefghijkl", 0, 1), ("a23456789012", 0, 1)], []), read_network,
                   "network { point abcdefghijkl at 0 every 1; point a23456789012 at 0 every 1; }")


class Refused(Case):
    def test_what_the_text_tells(self):
        a, b = "point a at 0 every 1;", "point b at 0 every 1;"
        for inner, path in [(a + a, (0, 1, 0)), (a + b + a, (0, 2, 0)), ("point a at 0 every 61;", (0, 0, 2)),
                            (a + "point b at 5 every 100;", (0, 1, 2)), (a + "rule x a 0;", (1, 0, 0)),
                            (a + "rule a x 0;", (1, 0, 1)), ("rule a a 0;", (1, 0, 0)),
                            (a + a + "rule x x 0;", (0, 1, 0)), (a + "rule a a 0; rule b a 0;", (1, 1, 0))]:
            self.refused(BadNetwork, {"path": path}, read_network, "network {" + inner + "}")

    def test_a_wrong_place_comes_first(self):
        a = "point a at 0 every 1;"
        for inner in (a + a, "point a at 0 every 61;", "rule x x 0;"):
            self.refused(BadText, {"place": 9 + len(inner)}, read_network, "network {" + inner)
            self.refused(BadText, {"place": 10 + len(inner)}, read_network, "network {" + inner + "}}")
            self.refused(BadText, {"place": 10 + len(inner)}, read_network, "network {" + inner + "}!")
            self.refused(BadText, {"place": 9 + len(inner)}, read_network, "network {" + inner + "0}")


class Limits(Case):
    def test_numbers_of_any_length_at_the_first_wrong_place(self):
        for length in (41, 100, 4299, 4300, 4301, 5000, 19000):
            number = "9" * length
            for ahead in ("", "network ", "network { ", "network { point ", "network { } ",
                          "network { point a at 0 ", "network { point a at 0 every 1 ", "network { rule a a 1 "):
                self.refused(BadText, {"place": len(ahead)}, read_network, ahead + number)
                self.refused(BadText, {"place": len(ahead)}, read_network, ahead + number + " ; } !")

    def test_numbers_of_any_length_behind_the_first_wrong_place(self):
        for length in (41, 4301, 15000):
            number = "8" * length
            self.refused(BadText, {"place": 10}, read_network, "network { a point a at " + number + " every 1; }")
            self.refused(BadText, {"place": 10}, read_network, "network { ! point a at " + number + " every 1; }")
            self.refused(BadText, {"place": 22}, read_network, "network { point a at -0 every " + number + "; }")

    def test_numbers_of_40_digits(self):
        great = "9" * 40
        text = f"network {{ point a at -{great} every 1; rule a a {great}; rule a a -{great}; }}"
        self.tells(Network([("a", 1 - 10 ** 40, 1)], [("a", "a", 10 ** 40 - 1), ("a", "a", 1 - 10 ** 40)]),
                   read_network, text)
        self.refused(BadNetwork, {"path": (0, 0, 2)}, read_network, f"network {{ point a at 0 every {great}; }}")

    def test_long_texts(self):
        points = [(f"p{k}", -10 ** 30 + k, 1 + k % 60) for k in range(40)]
        rules = [(f"p{k % 40}", f"p{(7 * k + 1) % 40}", (-1) ** k * 10 ** 30) for k in range(120)]
        network = Network(points, rules)
        text = network_text(network)
        self.tells(network, read_network, text)
        self.tells(network, read_network, text.replace("\n", "\n" * 70)[:-70] + " " * 100)
        self.refused(BadText, {"place": 20000}, read_network, "network {".ljust(20000))
        self.refused(BadText, {"place": 19999}, read_network, "network { }".ljust(19999) + "!")

    def test_more_points_than_the_limits(self):
        line = "point p at 0 every 1;"
        text = "network {" + line * 900 + "}"
        self.refused(BadNetwork, {"path": (0, 1, 0)}, read_network, text)
        self.refused(BadText, {"place": len(text) - 1}, read_network, text[:-1])


if __name__ == "__main__":
    unittest.main()
