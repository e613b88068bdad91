"""The document's examples, and random graphs."""

import random

TWICE = ("a", (), (), (("twice", (("x", "word"),), "word", (("give", ("add", ("name", "x"), ("name", "x"))),)),))
MAIN = ("b", (), (("twice", ("word",), "word"),), (("main", (("n", "word"),), "word", (
    ("let", "m", ("call", "twice", (("name", "n"),))), ("give", ("add", ("name", "m"), ("name", "n"))))),))
BEAT = ((), "beat", (), 0)
ONE = ("twice", 1, (((0,), (BEAT, ((1,), "add", (0, 0), 0)), ("give", (1,))),))
TWO = ("main", 1, (((0,), (BEAT, ((1,), "call", (0,), ("twice", 0)), ((2,), "copy", (1,), 0),
                           ((3,), "add", (2, 0), 0)), ("give", (3,))),))
LOOP = ("sum", 1, (
    ((0,), (BEAT, ((1,), "number", (), 0)), ("to", 1, (0, 1))),
    ((2, 3), (BEAT,), ("by", 2, 2, 3)),
    ((), (((4,), "add", (3, 2), 0), ((5,), "number", (), 1), ((6,), "sub", (2, 5), 0)), ("to", 1, (6, 4))),
    ((), (), ("give", (3,)))))
PAIRS = ("c", (("pair", (("both", ("word", "word")),)), ("maybe", (("none", ()), ("some", ("pair",))))), (), ())
CASES = ("c", (("opt", (("no", ()), ("yes", ("word",)))),), (), (("main", (("o", "opt"), ("n", "word")), "word", (
    ("when", ("name", "o"), (
        ((), (("give", ("number", 7)),)),
        (("x",), (
            ("loop", ("name", "x"), (
                ("tell", ("name", "x")), ("set", "x", ("sub", ("name", "x"), ("number", 1))))),
            ("give", ("div", ("name", "n"), ("name", "x"))))))),)),))
DOWN = ("u", (), (), (("down", (("n", "word"),), "word", (
    ("loop", ("name", "n"), (("set", "n", ("sub", ("name", "n"), ("number", 1))),)), ("give", ("name", "n")))),))
SIX = ("six", 1, (((), (BEAT, ((0,), "number", (), 2), ((1,), "number", (), 3), ((2,), "mul", (0, 1), 0),
                        ((3,), "mul", (0, 1), 0), ((4,), "sub", (2, 3), 0)), ("give", (4,))),))
PICK = ("pick", 1, (
    ((0,), (BEAT, ((1,), "number", (), 0)), ("by", 1, 1, 2)),
    ((), (), ("to", 3, (1,))),
    ((), (), ("to", 3, (0,))),
    ((2,), (), ("give", (2,)))))
PAIR = ("pair", 2, (((0,), (), ("give", (0, 0))),))
FAR = ("far", 1, (((0, 1, 2), (((3,), "call", (0,), ("twice", 0)), ((4,), "add", (2, 3), 0)), ("give", (4,))),))
FIVE = (
    ("main", 3, (("even", 1), ("odd", 2), ("leaf", 0))), ("even", 2, (("odd", 1),)), ("odd", 4, (("even", 3), ("leaf", 2))),
    ("leaf", 1, ()), ("spare", 9, (("ghost", 1),)))
A = ("twice", ("word",), "word", 1, ((("beat",), ("add", 0, 0, 0), ("back",)),))
B = ("main", ("word",), "word", 2, ((("beat",), ("call", "twice", 0, (0,), (0,), 1), ("add", 0, 1, 0), ("back",)),))
RING = ("main", ("word",), "word", 2, (
    (("beat",), ("nought", 0, 2)),
    (("number", 1, 1), ("sub", 1, 0, 1), ("call", "main", 0, (0,), (1,), 1), ("add", 0, 1, 0), ("back",)),
    (("back",),)))
ROUND = ("main", 1, (
    ((0,), (BEAT,), ("by", 0, 1, 2)),
    ((), (((1,), "number", (), 1), ((2,), "sub", (0, 1), 0), ((3,), "call", (2,), ("main", 0)), ((4,), "add", (3, 0), 0)),
     ("give", (4,))),
    ((), (), ("give", (0,)))))
ALONE = ("b", (), (), (("main", (), "word", (("give", ("number", 4)),)),))

OPERATIONS = ("add", "sub", "mul", "div", "rem", "less", "same")

# Values that are no numbers, or are none of anything.
ODD_VALUES = (
    None, True, False, -1, -7, "", "1", "word", (), (0,), [], [0], (None,), ((),), (True,), "Title", ("beat",), [[1], "a"],
    10 ** 59, -10 ** 59,
)


class SettledMaker:
    """Makes a random settled graph; with each, loops are beaten, so that it can be run."""

    def __init__(self, seed, most_blocks=9, most_steps=4, calls=True, few_words=False):
        self.random = random.Random(seed)
        self.most_blocks = most_blocks
        self.most_steps = most_steps
        self.calls = calls
        self.few_words = few_words
        self.fresh = 0

    def graph(self, title="g", taken=None, gives=None):
        self.fresh = 0
        endings, joins = self._wiring()
        if gives is None:
            gives = self.random.randrange(3)
        takes = {block: self._marks(self.random.randrange(4)) for block in joins}
        takes[0] = self._marks(self.random.randrange(4) if taken is None else taken)
        blocks = {}
        at_end = {}
        for block in _dominance_first(endings):
            dominating = [one for one in range(len(endings)) if one != block and _dominates(endings, one, block)]
            marks = [mark for one in dominating for mark in at_end[one][1]] + takes.get(block, [])
            steps, made = self._steps(marks, block == 0, block == 0 or block in joins)
            at_end[block] = (marks + made, takes.get(block, []) + made)
            blocks[block] = (tuple(takes.get(block, [])), tuple(steps))
        whole = []
        for block in range(len(endings)):
            ending = self._ending(endings[block], takes, at_end[block][0], gives)
            whole.append(blocks[block] + (ending,))
        return self._shuffled((title, gives, tuple(whole)))

    def _wiring(self):
        endings = [None]
        joins = []
        pending = [0]
        while pending:
            block = pending.pop(self.random.randrange(len(pending)))
            pick = self.random.random()
            if len(endings) + 2 <= self.most_blocks and pick < 0.4:
                endings[block] = ("by", len(endings), len(endings) + 1)
                pending += [len(endings), len(endings) + 1]
                endings += [None, None]
            elif joins and pick < 0.7:
                endings[block] = ("to", self.random.choice(joins))
            elif len(endings) < self.most_blocks and pick < 0.9:
                endings[block] = ("to", len(endings))
                joins.append(len(endings))
                pending.append(len(endings))
                endings.append(None)
            else:
                endings[block] = ("give",)
        return endings, joins

    def _marks(self, many):
        self.fresh += many
        return list(range(self.fresh - many, self.fresh))

    def _steps(self, marks, first, beaten):
        steps = [BEAT] if beaten else []
        here = list(marks)
        made = []
        many = self.random.randrange(self.most_steps + 1) + (1 if first else 0)
        for _ in range(many):
            step = self._step(here)
            steps.append(step)
            here += step[0]
            made += step[0]
        return steps, made

    def _step(self, here):
        words = (0, 1, 2) if self.few_words else (0, 1, 2, 3, 7, 65535)
        if not here:
            return (tuple(self._marks(1)), "number", (), self.random.choice(words))
        verb = self.random.choice(("number", "number", "copy", "tell", "call") + OPERATIONS)
        if verb == "call" and not self.calls:
            verb = "copy"
        pick = lambda: self.random.choice(here)
        if verb == "number":
            return (tuple(self._marks(1)), verb, (), self.random.choice(words))
        if verb == "copy":
            return (tuple(self._marks(1)), verb, (pick(),), 0)
        if verb == "tell":
            return ((), verb, (pick(),), 0)
        if verb == "call":
            return self._call(pick)
        note = self.random.randrange(5) if verb in ("div", "rem") else 0
        return (tuple(self._marks(1)), verb, (pick(), pick()), note)

    def _call(self, pick):
        reads = tuple(pick() for _ in range(self.random.randrange(3)))
        return (tuple(self._marks(self.random.randrange(4))), "call", reads, ("f", self.random.randrange(9)))

    def _ending(self, ending, takes, marks, gives):
        if ending[0] == "to":
            return ("to", ending[1], tuple(self.random.choice(marks) for _ in takes[ending[1]]))
        if ending[0] == "by":
            return ("by", self.random.choice(marks), ending[1], ending[2])
        return ("give", tuple(self.random.choice(marks) for _ in range(gives)))

    def _shuffled(self, graph):
        order = list(range(1, len(graph[2])))
        self.random.shuffle(order)
        order = [0] + order
        numbers = {block: at for at, block in enumerate(order)}
        names = list(range(self.fresh))
        self.random.shuffle(names)
        renamed = lambda marks: tuple(names[mark] for mark in marks)
        blocks = []
        for block in order:
            takes, steps, ending = graph[2][block]
            steps = tuple((renamed(makes), verb, renamed(reads), note) for makes, verb, reads, note in steps)
            if ending[0] == "to":
                ending = ("to", numbers[ending[1]], renamed(ending[2]))
            elif ending[0] == "by":
                ending = ("by", names[ending[1]], numbers[ending[2]], numbers[ending[3]])
            else:
                ending = ("give", renamed(ending[1]))
            blocks.append((renamed(takes), steps, ending))
        return (graph[0], graph[1], tuple(blocks))


def _named(ending):
    return ending[1:] if ending[0] in ("to", "by") else ()


def _reached(endings, without=None):
    met = set()
    pending = [0] if without != 0 else []
    while pending:
        block = pending.pop()
        if block not in met:
            met.add(block)
            pending += [one for one in _named(endings[block]) if one != without]
    return met


def _dominates(endings, one, other):
    return one == other or other not in _reached(endings, one)


def _dominance_first(endings):
    above = {block: sum(_dominates(endings, one, block) for one in range(len(endings))) for block in range(len(endings))}
    return sorted(above, key=lambda block: above[block])


def settled_graphs(many, seed=0, **options):
    """Random settled graphs, always the same ones for the same arguments."""
    return [SettledMaker(seed * 100003 + number, **options).graph() for number in range(many)]
