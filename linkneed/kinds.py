"""Integers, numbers, words and titles."""

LETTERS = "abcdefghijklmnopqrstuvwxyz"
DIGITS = "0123456789"
WORD_BOUND = 65536
LONGEST_TITLE = 12
GREATEST_SIZE = 16
KEPT_WORDS = (
    "unit", "shape", "use", "function", "take", "gives", "end", "let", "set", "if", "else", "loop", "when", "case",
    "tell", "give", "number", "name", "call", "word", "add", "sub", "mul", "div", "rem", "less", "same",
)


def is_integer(thing):
    """Whether any value is an int that is not a bool."""
    return isinstance(thing, int) and not isinstance(thing, bool)


def is_number(thing):
    """Whether any value is an integer that is at least 0."""
    return is_integer(thing) and thing >= 0


def is_word(thing):
    """Whether any value is a number below 65536."""
    return is_number(thing) and thing < WORD_BOUND


def is_number_set(thing):
    """Whether any value is an ascending tuple of numbers."""
    if not isinstance(thing, tuple) or not all([is_number(one) for one in thing]):
        return False
    return all([one < other for one, other in zip(thing, thing[1:])])


def is_size(thing):
    """Whether any value is a number of registers that a machine may have."""
    return is_number(thing) and 1 <= thing <= GREATEST_SIZE


def is_title(thing):
    """Whether any value is a string that may be a title."""
    if not isinstance(thing, str) or not 1 <= len(thing) <= LONGEST_TITLE:
        return False
    if thing[0] not in LETTERS or thing in KEPT_WORDS:
        return False
    return all([letter in LETTERS or letter in DIGITS for letter in thing])
