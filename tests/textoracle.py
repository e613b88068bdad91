"""A second reading of texts, line by line from the outside in, to compare read_unit with."""

import re

from linkneed.kinds import is_title

OPERATIONS = ("add", "sub", "mul", "div", "rem", "less", "same")
STATEMENTS = ("let", "set", "tell", "give", "if", "loop", "when")


class Bad(Exception):
    """Holds the number of the line."""


def is_kind(word):
    return word == "word" or is_title(word)


class Expressions:
    """Reads one expression from its letters."""

    def __init__(self, text):
        self.text = text
        self.at = 0

    def expect(self, text):
        if not self.text.startswith(text, self.at):
            raise ValueError
        self.at += len(text)

    def word(self):
        found = re.compile(r"[^ ()]*").match(self.text, self.at).group()
        self.at += len(found)
        return found

    def title(self):
        word = self.word()
        if not is_title(word):
            raise ValueError
        return word

    def one(self):
        if not self.text.startswith("(", self.at):
            word = self.word()
            if re.fullmatch(r"0|[1-9][0-9]{0,4}", word) and int(word) < 65536:
                return ("number", int(word))
            if not is_title(word):
                raise ValueError
            return ("name", word)
        self.expect("(")
        head = self.word()
        if head in OPERATIONS:
            parts = []
            for _ in range(2):
                self.expect(" ")
                parts.append(self.one())
            self.expect(")")
            return (head,) + tuple(parts)
        if head not in ("call", "case"):
            raise ValueError
        titles = []
        for _ in range(1 if head == "call" else 2):
            self.expect(" ")
            titles.append(self.title())
        things = []
        while self.text.startswith(" ", self.at):
            self.expect(" ")
            things.append(self.one())
        self.expect(")")
        return (head,) + tuple(titles) + (tuple(things),)


def expression(text):
    """The expression, or ValueError."""
    reading = Expressions(text)
    found = reading.one()
    if reading.at != len(text):
        raise ValueError
    return found


class Lines:
    """Goes through the lines; Bad for the first one that cannot stand where it does."""

    def __init__(self, text):
        self.lines = text.split("\n")
        self.at = 0

    def bad(self):
        raise Bad(self.at)

    def line(self):
        if self.at == len(self.lines):
            self.bad()
        return self.lines[self.at]

    def head(self):
        return self.line().split(" ")[0]

    def words(self):
        self.at += 1
        return self.lines[self.at - 1].split(" ")

    def check(self, holds):
        if not holds:
            self.at -= 1
            self.bad()

    def unit(self):
        self.line()
        words = self.words()
        self.check(len(words) == 2 and words[0] == "unit" and is_title(words[1]))
        parts = {"shape": [], "use": [], "function": []}
        for word, reading in (("shape", self.shape), ("use", self.use), ("function", self.function)):
            while self.at < len(self.lines) and self.head() == word:
                parts[word].append(reading())
        if self.at < len(self.lines):
            self.bad()
        return (words[1], tuple(parts["shape"]), tuple(parts["use"]), tuple(parts["function"]))

    def shape(self):
        words = self.words()
        self.check(len(words) == 2 and is_title(words[1]))
        cases = []
        while not cases or self.line() != "end":
            self.line()
            case = self.words()
            self.check(case[0] == "case" and len(case) > 1 and is_title(case[1]) and all(map(is_kind, case[2:])))
            cases.append((case[1], tuple(case[2:])))
        self.at += 1
        return (words[1], tuple(cases))

    def use(self):
        words = self.words()
        self.check(len(words) >= 4 and is_title(words[1]) and words[-2] == "gives" and is_kind(words[-1])
                   and all(map(is_kind, words[2:-2])))
        return (words[1], tuple(words[2:-2]), words[-1])

    def function(self):
        words = self.words()
        self.check(len(words) == 4 and is_title(words[1]) and words[2] == "gives" and is_kind(words[3]))
        params = []
        while self.head() == "take":
            param = self.words()
            self.check(len(param) == 3 and is_title(param[1]) and is_kind(param[2]))
            params.append((param[1], param[2]))
        body = self.body()
        self.end("end")
        return (words[1], tuple(params), words[3], body)

    def end(self, line):
        if self.line() != line:
            self.bad()
        self.at += 1

    def body(self):
        found = []
        while self.head() in STATEMENTS:
            found.append(self.statement())
        return tuple(found)

    def statement(self):
        head, _, rest = self.line().partition(" ")
        title = ()
        if head in ("let", "set"):
            word, _, rest = rest.partition(" ")
            if not is_title(word):
                self.bad()
            title = (word,)
        try:
            found = (head,) + title + (expression(rest),)
        except ValueError:
            self.bad()
        self.at += 1
        if head == "if":
            first = self.body()
            self.end("else")
            found += (first, self.body())
        elif head == "loop":
            found += (self.body(),)
        elif head == "when":
            arms = []
            while not arms or self.line() != "end":
                self.line()
                titles = self.words()
                self.check(titles[0] == "case" and all(map(is_title, titles[1:])))
                arms.append((tuple(titles[1:]), self.body()))
            found += (tuple(arms),)
        if head in ("if", "loop", "when"):
            self.end("end")
        return found


def read(text):
    """The pair (unit, None), or (None, number of the line)."""
    try:
        return (Lines(text).unit(), None)
    except Bad as bad:
        return (None, bad.args[0])
