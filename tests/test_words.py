"""Words, integers and numbers."""

import unittest

from roundticks.networks import Network
from roundticks.words import is_integer, is_number, is_word
from tests.case import Case, anything

LETTERS = "abcdefghijklmnopqrstuvwxyz"
DIGITS = "0123456789"
OTHERS = [chr(code) for code in range(32, 127) if chr(code) not in LETTERS + DIGITS] + ["\t", "\n"]


class Words(Case):
    def test_words_of_all_lengths(self):
        for length in range(1, 13):
            self.tells(True, is_word, "abcdefghijkl"[:length])
            self.tells(True, is_word, "z" + "9" * (length - 1))
        self.tells(False, is_word, "abcdefghijklm")
        self.tells(False, is_word, "a" * 13)
        self.tells(False, is_word, "a" * 20000)
        self.tells(False, is_word, "")

    def test_each_letter_and_each_digit(self):
        for letter in LETTERS:
            for word in (letter, letter + "x", "x" + letter, "x" + letter + "x", "x" * 11 + letter):
                self.tells(True, is_word, word)
        for digit in DIGITS:
            for word in ("x" + digit, "x" + digit + "x", "x" * 11 + digit):
                self.tells(True, is_word, word)
            for text in (digit, digit + "x", digit + digit, digit + "x" * 11):
                self.tells(False, is_word, text)

    def test_other_characters_at_each_place(self):
        for sign in OTHERS:
            for text in (sign, sign + "a", "a" + sign, "a" + sign + "b", "ab" + sign + "cd", "a" * 11 + sign):
                self.tells(False, is_word, text)

    def test_values_that_are_no_strings(self):
        for value in [True, False, None, 0, 1, -1, [], ["a"], (), ("a",), ("a", "b"), {}, {"a": "a"},
                      Network([], [])]:
            self.tells(False, is_word, value)

    def test_values_of_all_kinds(self):
        words = [value for value in anything() if self.told(is_word, value)]
        self.assertEqual(words, ["a", "z9"])


class Integers(Case):
    def test_integers(self):
        for value in (0, 1, -1, 2, 60, 10 ** 30, -10 ** 30, 10 ** 40 - 1):
            self.tells(True, is_integer, value)

    def test_numbers(self):
        for value in (0, 1, 2, 10 ** 30, 10 ** 40 - 1):
            self.tells(True, is_number, value)
        for value in (-1, -2, -10 ** 30):
            self.tells(False, is_number, value)

    def test_values_that_are_no_integers(self):
        for value in [True, False, None, "", "0", "1", [], [1], (), (1,), {}, {1: 1}, Network([], [])]:
            self.tells(False, is_integer, value)
            self.tells(False, is_number, value)

    def test_values_of_all_kinds(self):
        for value in anything():
            self.tells(type(value) is int, is_integer, value)
            self.tells(type(value) is int and value >= 0, is_number, value)


if __name__ == "__main__":
    unittest.main()
