"""Expressions read from the words of a line."""

from linkneed.kinds import DIGITS, is_title, is_word
from linkneed.operations import OPERATIONS

# No word has more digits.
MOST_DIGITS = 5


def read_expression(words):
    """The expression whose text these words are, with one space between two; None if there is none."""
    # What is read in each bracket that is not closed yet, the first word of all behind the outermost.
    stack = [[]]
    for word in words:
        if word.startswith("("):
            stack.append([word[1:]])
            continue
        atom = word.rstrip(")")
        stack[-1].append(atom)
        for _ in range(len(word) - len(atom)):
            expression = _closed(stack.pop())
            if expression is None or len(stack) == 0:
                return None
            stack[-1].append(expression)
    if len(stack) != 1 or len(stack[0]) != 1:
        return None
    return _part(stack[0][0])


def _closed(read):
    # read has a first word, then atoms and expressions.
    if len(read) < 2:
        return None
    head = read[0]
    if head in OPERATIONS and len(read) == 3:
        return _built((head,), read[1:])
    if head == "call" and is_title(read[1]):
        things = _built((), read[2:])
        return (head, read[1], things) if things is not None else None
    if head == "case" and len(read) > 2 and is_title(read[1]) and is_title(read[2]):
        things = _built((), read[3:])
        return (head, read[1], read[2], things) if things is not None else None
    return None


def _built(ahead, read):
    # The tuple ahead with the parts behind it; None if one is no expression.
    parts = tuple([_part(one) for one in read])
    if None in parts:
        return None
    return ahead + parts


def _part(one):
    if isinstance(one, tuple):
        return one
    if is_title(one):
        return ("name", one)
    if _is_word_text(one):
        return ("number", int(one))
    return None


def _is_word_text(text):
    if not 1 <= len(text) <= MOST_DIGITS or not all([letter in DIGITS for letter in text]):
        return False
    return is_word(int(text)) and str(int(text)) == text
