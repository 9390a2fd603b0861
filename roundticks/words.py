"""Words, integers and numbers, told from all other values."""

LETTERS = "abcdefghijklmnopqrstuvwxyz"
DIGITS = "0123456789"
WORD_SIGNS = "abcdefghijklmnopqrstuvwxyz0123456789"
LONGEST_WORD = 12


def is_word(value):
    """Whether a value is a word."""
    if not isinstance(value, str) or not 1 <= len(value) <= LONGEST_WORD:
        return False
    return value[0] in LETTERS and all([sign in WORD_SIGNS for sign in value])


def is_integer(value):
    """Whether a value is an integer, which True and False are not."""
    return isinstance(value, int) and not isinstance(value, bool)


def is_number(value):
    """Whether a value is an integer of at least 0."""
    return is_integer(value) and value >= 0
