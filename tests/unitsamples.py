"""Random bound units, and runs of units and of graphs as the document tells them."""

import random

from tests.oracles import OPERATIONS, worked

WORDS = (0, 0, 1, 1, 2, 3, 5, 9, 65535)


def structure(shapes, kind):
    if kind == "word":
        return "word"
    cases = dict(shapes)[kind]
    return tuple(tuple(structure(shapes, field) for field in fields) for _, fields in cases)


def width(shape):
    if shape == "word":
        return 1
    sums = [sum(map(width, fields)) for fields in shape]
    return sums[0] if len(sums) == 1 else 1 + max(sums)


class UnitsMaker:
    """Makes a tuple of bound units; the shapes of all are alike but for their titles."""

    def __init__(self, seed):
        self.random = random.Random(seed)

    def units(self):
        self.shapes = self._shapes()
        kinds = ["word"] * 3 + [title for title, _ in self.shapes]
        many = self.random.randrange(1, 4)
        titles = ["main"] + [f"f{number}" for number in range(self.random.randrange(4))]
        self.signatures = {}
        for title in titles:
            takes = tuple(self.random.choice(kinds) for _ in range(self.random.randrange(3)))
            self.signatures[title] = (takes, self.random.choice(kinds))
        homes = {title: self.random.randrange(many) for title in titles}
        units = []
        for home in range(many):
            rename = {"word": "word"}
            rename.update({title: f"{title}{'abc'[home]}" for title, _ in self.shapes})
            own = [title for title in titles if homes[title] == home]
            self.rename = rename
            functions = tuple(self._function(title) for title in own)
            shapes = tuple((rename[title], tuple((case, tuple(rename[kind] for kind in fields)) for case, fields in cases))
                           for title, cases in self.shapes)
            uses = tuple((title, tuple(rename[kind] for kind in self.signatures[title][0]),
                          rename[self.signatures[title][1]]) for title in titles if homes[title] != home)
            units.append((f"u{home}", shapes, uses, functions))
        return tuple(units)

    def _shapes(self):
        shapes = []
        for number in range(self.random.randrange(4)):
            kinds = ["word", "word"] + [title for title, _ in shapes]
            cases = tuple((f"c{at}", tuple(self.random.choice(kinds) for _ in range(self.random.randrange(3))))
                          for at in range(self.random.randrange(1, 4)))
            shapes.append((f"s{number}", cases))
            if width(structure(shapes, f"s{number}")) > 6:
                shapes.pop()
                break
        return tuple(shapes)

    def _function(self, title):
        takes, gives = self.signatures[title]
        self.title = title
        self.fresh = 0
        self.left = self.random.randrange(4, 22)
        params = tuple((f"p{at}", self.rename[kind]) for at, kind in enumerate(takes))
        body = self._body({f"p{at}": kind for at, kind in enumerate(takes)}, gives, 0)
        return (title, params, self.rename[gives], body)

    def _body(self, seen, gives, depth):
        seen = dict(seen)
        body = []
        for _ in range(self.random.randrange(5 if depth == 0 else 3) + (depth == 0)):
            if self.left > 0:
                self.left -= 1
                body.append(self._statement(seen, gives, depth))
        return tuple(body)

    def _statement(self, seen, gives, depth):
        heads = ["let", "let", "set", "set", "tell", "give"] + (["if", "loop", "when", "when"] if depth < 4 else [])
        head = self.random.choice(heads)
        kinds = ["word"] + [title for title, _ in self.shapes]
        if head == "set" and seen:
            title = self.random.choice(sorted(seen))
            return ("set", title, self._expression(seen, seen[title], 0))
        if head in ("let", "set"):
            kind = self.random.choice(kinds)
            expression = self._expression(seen, kind, 0)
            self.fresh += 1
            seen[f"v{self.fresh}"] = kind
            return ("let", f"v{self.fresh}", expression)
        if head == "give":
            return ("give", self._expression(seen, gives, 0))
        if head == "when" and len(kinds) > 1:
            return self._when(seen, gives, depth, self.random.choice(kinds[1:]))
        if head == "if":
            first = self._expression(seen, "word", 0)
            return ("if", first, self._body(seen, gives, depth + 1), self._body(seen, gives, depth + 1))
        if head == "loop":
            return ("loop", self._expression(seen, "word", 0), self._body(seen, gives, depth + 1))
        return ("tell", self._expression(seen, "word", 0))

    def _when(self, seen, gives, depth, kind):
        expression = self._expression(seen, kind, 0)
        arms = []
        for _, fields in dict(self.shapes)[kind]:
            inside = dict(seen)
            titles = []
            for field in fields:
                self.fresh += 1
                titles.append(f"v{self.fresh}")
                inside[titles[-1]] = field
            arms.append((tuple(titles), self._body(inside, gives, depth + 1)))
        return ("when", expression, tuple(arms))

    def _expression(self, seen, kind, depth):
        titles = [title for title in sorted(seen) if seen[title] == kind]
        pick = self.random.random()
        if titles and (pick < 0.4 or depth > 3):
            return ("name", self.random.choice(titles))
        order = list(self.signatures)
        callable_titles = [title for title in self.signatures if self.signatures[title][1] == kind
                           and (order.index(title) > order.index(self.title) or self.random.random() < 0.07)]
        if callable_titles and pick < 0.55 and depth < 3:
            title = self.random.choice(callable_titles)
            return ("call", title, tuple(self._expression(seen, one, depth + 1) for one in self.signatures[title][0]))
        if kind != "word":
            case, fields = self.random.choice(dict(self.shapes)[kind])
            return ("case", self.rename[kind], case, tuple(self._expression(seen, one, depth + 1) for one in fields))
        if pick < 0.85 and depth < 3:
            return (self.random.choice(OPERATIONS), self._expression(seen, kind, depth + 1),
                    self._expression(seen, kind, depth + 1))
        return ("number", self.random.choice(WORDS))


def bound_units(many, seed=0):
    return [UnitsMaker(seed * 99991 + number).units() for number in range(many)]


class Ended(Exception):
    pass


class Gave(Exception):
    pass


def nested(shape, words):
    """The value of these words as a word or a pair (case, parts)."""
    if shape == "word":
        return words[0]
    case = 0
    if len(shape) > 1:
        case, words = words[0], words[1:]
    parts = []
    for field in shape[case]:
        parts.append(nested(field, words[:width(field)]))
        words = words[width(field):]
    return (case, tuple(parts))


def flat(shape, value):
    if shape == "word":
        return (value,)
    case, parts = value
    words = tuple(word for field, part in zip(shape[case], parts) for word in flat(field, part))
    if len(shape) == 1:
        return words
    return ((case,) + words + (0,) * width(shape))[:width(shape)]


class TreeRun:
    """A run of units."""

    def __init__(self, units, most):
        self.most = most
        self.beats = 0
        self.open = 0
        self.told = []
        self.functions = {function[0]: (unit, function) for unit in units for function in unit[3]}

    def outcome(self, args):
        unit, function = self.functions["main"]
        values = []
        for _, kind in function[1]:
            shape = structure(unit[1], kind)
            values.append(nested(shape, args[:width(shape)]))
            args = args[width(shape):]
        try:
            end = ("gave", flat(structure(unit[1], function[2]), self.enter("main", values)))
        except Ended as ended:
            end = ended.args[0]
        return (tuple(self.told), end, self.beats)

    def beat(self):
        if self.beats == self.most:
            raise Ended(("on",))
        self.beats += 1

    def enter(self, title, values):
        self.beat()
        self.open += 1
        value = Frame(self, *self.functions[title]).run(values)
        self.open -= 1
        return value


class Frame:
    """One open function."""

    def __init__(self, run, unit, function):
        self.run_of = run
        self.unit = unit
        self.function = function
        self.numbers = {}
        self._count(function[3], ())

    def _count(self, part, path):
        # Only such expressions are triples that begin so: titles are none of these words.
        if isinstance(part, tuple):
            if len(part) == 3 and part[0] in ("div", "rem", "call"):
                self.numbers[path] = len(self.numbers)
            for at, one in enumerate(part):
                self._count(one, path + (at,))

    def run(self, values):
        names = dict(zip([title for title, _ in self.function[1]], values))
        try:
            self.body(self.function[3], (), names)
        except Gave as gave:
            return gave.args[0]
        shape = structure(self.unit[1], self.function[2])
        return nested(shape, (0,) * width(shape))

    def body(self, body, path, names):
        mine = []
        for at, statement in enumerate(body):
            here = path + (at,)
            head = statement[0]
            if head in ("let", "set"):
                names[statement[1]] = self.worth(statement[2], here + (2,), names)
                mine += [statement[1]] if head == "let" else []
                continue
            if head == "loop":
                self.run_of.beat()
            value = self.worth(statement[1], here + (1,), names)
            if head == "tell":
                self.run_of.told.append(value)
            elif head == "give":
                raise Gave(value)
            elif head == "if":
                self.body(statement[2 if value else 3], here + (2 if value else 3,), names)
            elif head == "loop":
                while value:
                    self.body(statement[2], here + (2,), names)
                    self.run_of.beat()
                    value = self.worth(statement[1], here + (1,), names)
            else:
                titles, inner = statement[2][value[0]]
                names.update(zip(titles, value[1]))
                self.body(inner, here + (2, value[0], 1), names)
                mine += titles
        for title in mine:
            del names[title]

    def worth(self, expression, path, names):
        head = expression[0]
        if head == "number":
            return expression[1]
        if head == "name":
            return names[expression[1]]
        if head == "call":
            values = [self.worth(one, path + (2, at), names) for at, one in enumerate(expression[2])]
            if self.run_of.open == 16:
                raise Ended(("fault", "deep", self.function[0], self.numbers[path]))
            return self.run_of.enter(expression[1], values)
        if head == "case":
            cases = [title for title, _ in dict(self.unit[1])[expression[1]]]
            return (cases.index(expression[2]), tuple(
                self.worth(one, path + (3, at), names) for at, one in enumerate(expression[3])))
        one, other = [self.worth(expression[at], path + (at,), names) for at in (1, 2)]
        word = worked(head, one, other)
        if word is None:
            raise Ended(("fault", "nought", self.function[0], self.numbers[path]))
        return word


class GraphRun:
    """A run of loose or settled graphs."""

    def __init__(self, graphs, most):
        self.graphs = {graph[0]: graph for graph in graphs}
        self.most = most
        self.beats = 0
        self.open = 0
        self.told = []

    def outcome(self, args):
        try:
            end = ("gave", self.enter("main", args))
        except Ended as ended:
            end = ended.args[0]
        return (tuple(self.told), end, self.beats)

    def enter(self, title, handed):
        self.open += 1
        words = {}
        block = 0
        while True:
            takes, steps, ending = self.graphs[title][2][block]
            words.update(zip(takes, handed))
            for step in steps:
                self.step(title, step, words)
            if ending[0] == "give":
                self.open -= 1
                return tuple(words[mark] for mark in ending[1])
            handed = ()
            if ending[0] == "to":
                block, handed = ending[1], tuple(words[mark] for mark in ending[2])
            else:
                block = ending[2] if words[ending[1]] else ending[3]

    def step(self, title, step, words):
        makes, verb, reads, note = step
        read = tuple(words[mark] for mark in reads)
        if verb == "beat":
            if self.beats == self.most:
                raise Ended(("on",))
            self.beats += 1
        elif verb == "tell":
            self.told += read
        elif verb == "number":
            words[makes[0]] = note
        elif verb == "copy":
            words[makes[0]] = read[0]
        elif verb == "call":
            if self.open == 16:
                raise Ended(("fault", "deep", title, note[1]))
            words.update(zip(makes, self.enter(note[0], read)))
        else:
            words[makes[0]] = worked(verb, *read)
            if words[makes[0]] is None:
                raise Ended(("fault", "nought", title, note))


def some_args(units, seed):
    """Words that are values of what main takes."""
    source = random.Random(seed)
    for unit in units:
        for title, params, _, _ in unit[3]:
            if title == "main":
                return tuple(word for _, kind in params for word in _some_value(source, structure(unit[1], kind)))
    raise AssertionError("no main")


def _some_value(source, shape):
    if shape == "word":
        return (source.choice(WORDS),)
    case = source.randrange(len(shape))
    words = tuple(word for field in shape[case] for word in _some_value(source, field))
    if len(shape) == 1:
        return words
    return ((case,) + words + (0,) * width(shape))[:width(shape)]
