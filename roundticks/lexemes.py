"""The lexemes of texts, and how a form is read from them."""

from roundticks.errors import BadText
from roundticks.words import DIGITS, LETTERS, LONGEST_WORD, WORD_SIGNS

SIGNS = "{};-"
GAPS = " \n"


def run_from(text, place, signs):
    """All characters of a text that follow each other from a place on and are some of the signs."""
    end = place
    while end < len(text) and text[end] in signs:
        end += 1
    return text[place:end]


def lexeme_at(text, place):
    """The lexeme that begins at a place of a text, or None."""
    sign = text[place]
    if sign in SIGNS:
        return ("sign", sign, place)
    if sign == "0":
        return ("number", sign, place)
    if sign in DIGITS:
        return ("number", run_from(text, place, DIGITS), place)
    if sign in LETTERS:
        word = run_from(text, place, WORD_SIGNS)
        if len(word) <= LONGEST_WORD:
            return ("word", word, place)
    return None


def lexemes_ahead(text):
    """The list of the lexemes ahead of the first character that begins none, and its place or None."""
    found = []
    place = 0
    while place < len(text):
        if text[place] in GAPS:
            place += 1
            continue
        lexeme = lexeme_at(text, place)
        if lexeme is None:
            return found, place
        found.append(lexeme)
        place += len(lexeme[1])
    return found, None


def lexemes(text):
    """The list of the lexemes of a text, as tuples (sort, lexeme, place)."""
    found, wrong = lexemes_ahead(text)
    if wrong is not None:
        raise BadText(wrong)
    return found


def integer_of(digits):
    """The integer that digits tell."""
    # int() refuses some thousands of digits, with an error that is none of this package.
    total = 0
    for digit in digits:
        total = total * 10 + DIGITS.index(digit)
    return total


class Reader:
    """Goes through a text by its form, lexeme by lexeme, and refuses the first wrong place."""

    def __init__(self, text):
        found, wrong = lexemes_ahead(text)
        self._lexemes = found
        self._at = 0
        self._is_whole = wrong is None
        self._end = len(text) if wrong is None else wrong

    def _here(self):
        """The first wrong place if the text does not go on as it must."""
        if self._at < len(self._lexemes):
            return self._lexemes[self._at][2]
        return self._end

    def sees(self, lexeme):
        """Whether this lexeme comes next."""
        return self._at < len(self._lexemes) and self._lexemes[self._at][1] == lexeme

    def take(self, lexeme):
        """Goes behind this lexeme, which must come next."""
        if not self.sees(lexeme):
            raise BadText(self._here())
        self._at += 1

    def _take_one(self, sort):
        """Goes behind the next lexeme, which must be of this sort, and returns it."""
        if self._at == len(self._lexemes) or self._lexemes[self._at][0] != sort:
            raise BadText(self._here())
        self._at += 1
        return self._lexemes[self._at - 1][1]

    def take_one_of(self, words):
        """Goes behind the next lexeme, which must be one of some words, and returns it."""
        for word in words:
            if self.sees(word):
                self._at += 1
                return word
        raise BadText(self._here())

    def has_more(self):
        """Whether there is one more lexeme."""
        return self._at < len(self._lexemes)

    def take_name(self):
        """Goes behind a NAME and returns it."""
        return self._take_one("word")

    def take_number(self):
        """Goes behind a NUMBER and returns it."""
        return integer_of(self._take_one("number"))

    def take_count(self):
        """Goes behind a NUMBER other than 0 and returns it."""
        if self.sees("0"):
            raise BadText(self._here())
        return self.take_number()

    def take_place(self):
        """Goes behind a PLACE and returns its integer."""
        if self.sees("-"):
            self.take("-")
            return -self.take_count()
        return self.take_number()

    def finish(self):
        """Refuses whatever stands behind the form."""
        if self._at < len(self._lexemes) or not self._is_whole:
            raise BadText(self._here())
