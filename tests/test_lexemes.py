"""Lexemes: their sorts, their places, and the first character that begins none."""

import random
import unittest

from roundticks.errors import BadText
from roundticks.lexemes import lexemes
from tests.case import Case
from tests.oracle import lexemes_of

LETTERS = "abcdefghijklmnopqrstuvwxyz"
DIGITS = "0123456789"
WRONG = [chr(code) for code in range(33, 127) if chr(code) not in LETTERS + DIGITS + "{};-"] + ["\t"]


class Lexemes(Case):
    def test_the_examples(self):
        self.tells([("number", "12", 0), ("word", "ab", 2)], lexemes, "12ab")
        self.tells([("sign", "-", 0), ("number", "12", 1)], lexemes, "-12")
        self.tells([("number", "0", 0), ("number", "0", 1), ("number", "7", 2)], lexemes, "007")
        self.refused(BadText, {"place": 0}, lexemes, "abcdefghijklm")
        self.refused(BadText, {"place": 0}, lexemes, "\t")

    def test_texts_without_lexemes(self):
        for text in ("", " ", "\n", "  ", "\n\n", " \n \n ", " " * 50):
            self.tells([], lexemes, text)

    def test_signs(self):
        for sign in "{};-":
            self.tells([("sign", sign, 0)], lexemes, sign)
            self.tells([("sign", sign, 0), ("sign", sign, 1)], lexemes, sign * 2)
            self.tells([("word", "a", 0), ("sign", sign, 1), ("number", "5", 2)], lexemes, "a" + sign + "5")
            self.tells([("number", "0", 1), ("sign", sign, 3), ("word", "b", 4)], lexemes, " 0 " + sign + "b")

    def test_each_letter_and_each_digit(self):
        for letter in LETTERS:
            self.tells([("word", letter, 0)], lexemes, letter)
            self.tells([("word", "x" + letter + "0", 0)], lexemes, "x" + letter + "0")
        for digit in DIGITS:
            self.tells([("number", digit, 0)], lexemes, digit)
            self.tells([("number", "1" + digit, 0)], lexemes, "1" + digit)
            self.tells([("word", "a" + digit, 0)], lexemes, "a" + digit)

    def test_numbers_with_zeros(self):
        self.tells([("number", "0", 0), ("number", "5", 1)], lexemes, "05")
        self.tells([("number", "0", 0), ("number", "50", 1)], lexemes, "050")
        self.tells([("number", "500", 0)], lexemes, "500")
        self.tells([("number", "10", 0)], lexemes, "10")
        self.tells([("number", "0", 0), ("number", "0", 1)], lexemes, "00")
        self.tells([("number", "0", 0), ("number", "10203", 1)], lexemes, "010203")
        self.tells([("sign", "-", 0), ("number", "0", 1)], lexemes, "-0")

    def test_words_right_behind_numbers(self):
        self.tells([("number", "0", 0), ("word", "a", 1)], lexemes, "0a")
        self.tells([("number", "10", 0), ("word", "a1b2", 2)], lexemes, "10a1b2")
        self.tells([("number", "7", 0), ("word", "abcdefghijkl", 1)], lexemes, "7abcdefghijkl")
        self.refused(BadText, {"place": 1}, lexemes, "7abcdefghijklm")
        self.refused(BadText, {"place": 2}, lexemes, "70a234567890123")

    def test_numbers_do_not_end_words(self):
        self.tells([("word", "a007", 0)], lexemes, "a007")
        self.tells([("word", "a1", 0), ("number", "2", 3)], lexemes, "a1 2")
        self.tells([("word", "a0b0", 0)], lexemes, "a0b0")

    def test_long_words(self):
        for word in ("abcdefghijkl", "a12345678901", "zzzzzzzzzzz0"):
            self.tells([("word", word, 0)], lexemes, word)
            self.tells([("word", word, 2), ("sign", "-", 14)], lexemes, " \n" + word + "-")
            self.tells([("word", word, 0), ("word", "m", 13)], lexemes, word + " m")
            for more in ("m", "0", "m" * 30):
                self.refused(BadText, {"place": 0}, lexemes, word + more)
                self.refused(BadText, {"place": 3}, lexemes, "a {" + word + more + "}")

    def test_gaps_and_places(self):
        self.tells([("word", "a", 0), ("word", "b", 2)], lexemes, "a b")
        self.tells([("word", "a", 0), ("word", "b", 2)], lexemes, "a\nb")
        self.tells([("word", "a", 3), ("word", "b", 8)], lexemes, "\n  a \n  b  \n")
        self.tells([("sign", "{", 0), ("sign", "}", 1), ("sign", ";", 2), ("sign", "-", 3)], lexemes, "{};-")
        self.tells([("number", "1", 0), ("number", "2", 2)], lexemes, "1 2")

    def test_other_characters_at_each_place(self):
        for sign in WRONG:
            for text, place in [("", 0), (" ", 1), ("ab", 2), ("ab ", 3), ("12", 2), ("0", 1), ("\n{", 2), ("-", 1)]:
                for behind in ("", " ", "a", "0", "}", sign, " \n" + sign):
                    self.refused(BadText, {"place": place}, lexemes, text + sign + behind)

    def test_the_first_wrong_character_is_told(self):
        self.refused(BadText, {"place": 2}, lexemes, "a ! abcdefghijklm")
        self.refused(BadText, {"place": 2}, lexemes, "a abcdefghijklm !")
        self.refused(BadText, {"place": 3}, lexemes, "a bA1 ?")

    def test_texts_by_chance(self):
        chance = random.Random(5)
        for _ in range(1500):
            text = "".join(chance.choice("aaz019{};- \n") for _ in range(chance.randint(0, 30)))
            if chance.random() < 0.3:
                place = chance.randint(0, len(text))
                text = text[:place] + chance.choice(WRONG) + text[place:]
            found, wrong = lexemes_of(text)
            if wrong is None:
                self.tells(found, lexemes, text)
            else:
                self.refused(BadText, {"place": wrong}, lexemes, text)

    def test_what_is_returned_may_be_changed(self):
        told = lexemes("a 1")
        told.clear()
        self.assertEqual(lexemes("a 1"), [("word", "a", 0), ("number", "1", 2)])


class LongTexts(Case):
    def test_long_numbers(self):
        for digits in ("9" * 20000, "1" + "0" * 19999):
            self.tells([("number", digits, 0)], lexemes, digits)
        self.tells([("number", "0", k) for k in range(20000)], lexemes, "0" * 20000)
        self.refused(BadText, {"place": 19999}, lexemes, "9" * 19999 + "!")

    def test_long_words_and_gaps(self):
        self.refused(BadText, {"place": 0}, lexemes, "a" * 20000)
        self.refused(BadText, {"place": 10000}, lexemes, " " * 10000 + "a" * 10000)
        self.tells([], lexemes, " \n" * 10000)
        self.tells([("sign", "-", k) for k in range(20000)], lexemes, "-" * 20000)
        self.tells([("word", "a0", 3 * k) for k in range(6666)], lexemes, "a0 " * 6666)


if __name__ == "__main__":
    unittest.main()
