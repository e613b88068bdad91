"""Shapes, functions and statements whose "end" has not been read yet."""

from linkneed.expressionreadings import read_expression
from linkneed.kinds import is_title
from linkneed.unitforms import is_kind


class OpenPart:
    """One of them; told is what its first line tells behind the word."""

    def __init__(self, word, told):
        self.word = word
        self.told = told
        # Cases, params, arms, or the first body of two.
        self.parts = []
        self.titles = ()
        # The statements of the body that is read; None where no statement may stand.
        self.body = []
        if word in ("shape", "when"):
            self.body = None

    def takes_line(self, words):
        """Whether a line that is no statement and no end may stand here; takes it in."""
        head = words[0]
        if head == "case" and self.word == "shape":
            return self._take_case(words)
        if head == "case" and self.word == "when":
            return self._take_arm(words)
        if head == "take" and self.word == "function":
            return self._take_param(words)
        if words == ["else"] and self.word == "if" and len(self.parts) == 0:
            self.parts.append(tuple(self.body))
            self.body = []
            return True
        return False

    def _take_case(self, words):
        if len(words) < 2 or not is_title(words[1]) or not all([is_kind(word) for word in words[2:]]):
            return False
        self.parts.append((words[1], tuple(words[2:])))
        return True

    def _take_arm(self, words):
        if not all([is_title(word) for word in words[1:]]):
            return False
        self._end_arm()
        self.titles = tuple(words[1:])
        self.body = []
        return True

    def _end_arm(self):
        if self.body is not None:
            self.parts.append((self.titles, tuple(self.body)))

    def _take_param(self, words):
        if len(self.body) > 0 or len(words) != 3 or not is_title(words[1]) or not is_kind(words[2]):
            return False
        self.parts.append((words[1], words[2]))
        return True

    def ended(self):
        """The whole, now that its end has come; None if it may not come yet."""
        if self.word == "function":
            title, gives = self.told
            return (title, tuple(self.parts), gives, tuple(self.body))
        if self.word == "loop":
            return (self.word,) + self.told + (tuple(self.body),)
        if self.word == "when":
            self._end_arm()
        if len(self.parts) == 0:
            return None
        if self.word == "if":
            return (self.word,) + self.told + (self.parts[0], tuple(self.body))
        if self.word == "when":
            return (self.word,) + self.told + (tuple(self.parts),)
        return self.told + (tuple(self.parts),)


def read_statement(words):
    """A statement without bodies, or the open part of one with bodies; None if the line is neither."""
    head = words[0]
    if head in ("let", "set"):
        expression = read_expression(words[2:])
        if expression is None or not is_title(words[1]):
            return None
        return (head, words[1], expression)
    if head not in ("tell", "give", "if", "loop", "when"):
        return None
    expression = read_expression(words[1:])
    if expression is None:
        return None
    if head in ("tell", "give"):
        return (head, expression)
    return OpenPart(head, (expression,))
