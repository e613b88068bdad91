"""What the document says of transfers, rings, bases and needs, told plainly and slowly."""

import random
from itertools import permutations

from tests.oracles import worked


def all_transferred(pairs, words):
    """The words behind the transfers, all at once."""
    behind = list(words)
    for to, source in pairs:
        behind[to] = words[source]
    return tuple(behind)


def fewest_rows(pairs, many):
    """How many move and swap rows among many registers do the transfers at least; others may change."""
    goal = dict(pairs)
    kept = [place for place in range(many) if place not in goal]
    met = {tuple(range(many))}
    layer = list(met)
    rows = 0
    while True:
        if any(all(words[to] == source for to, source in pairs) and all(words[place] == place for place in kept)
               for words in layer):
            return rows
        rows += 1
        behind = set()
        for words in layer:
            for one, other in permutations(range(many), 2):
                moved = list(words)
                moved[one] = words[other]
                behind.add(tuple(moved))
                moved[other] = words[one]
                behind.add(tuple(moved))
        layer = sorted(behind - met)
        met |= behind


def reached(sheets, title):
    calls = {one: [name for name, _ in called] for one, _, called in sheets}
    found = set(calls.get(title, ()))
    while True:
        more = found | {name for one in found for name in calls.get(one, ())}
        if more == found:
            return found
        found = more


def rings(sheets):
    titles = [sheet[0] for sheet in sheets]
    found = set()
    for title in titles:
        if title in reached(sheets, title):
            found.add(tuple(sorted(other for other in titles
                                   if other in reached(sheets, title) and title in reached(sheets, other))))
    return tuple(sorted(found))


def weight(sheets, caller, called, many):
    return 0 if called == caller or caller in reached(sheets, called) else many


def bases(sheets):
    """The greatest sums of weights over all call paths of up to so many calls that no more can be had."""
    steps = [(title, name, weight(sheets, title, name, many)) for title, _, called in sheets for name, many in called]
    best = {"main": 0}
    layer = {"main": 0}
    for _ in range(3 * len(sheets) + 3):
        behind = {}
        for title, name, worth in steps:
            if title in layer:
                behind[name] = max(behind.get(name, 0), layer[title] + worth)
        layer = behind
        for title, base in layer.items():
            best[title] = max(best.get(title, 0), base)
    return tuple(sorted(best.items()))


def need(sheets):
    own = {sheet[0]: sheet[1] for sheet in sheets}
    return max(base + own[title] for title, base in bases(sheets))


def random_sheets(seed, ghosts=False):
    source = random.Random(seed)
    titles = ["main"] + [f"f{number}" for number in range(source.randrange(7))]
    called = titles + (["ghost", "aghost"] if ghosts else [])
    sheets = []
    for title in titles:
        calls = tuple((source.choice(called), source.randrange(4)) for _ in range(source.randrange(4)))
        sheets.append((title, source.randrange(5), calls))
    source.shuffle(sheets)
    return tuple(sheets)


def told_laid(piece, bases, rings, transfer_rows):
    """The rows of a piece by the words of the document."""
    base_of = dict(bases)
    b = base_of[piece[0]]
    blocks = []
    for block in piece[4]:
        rows = []
        for row in block:
            if row[0] == "call":
                _, title, number, held, handed, many = row
                c = base_of[title]
                a = len(held)
                kept = [(b + i, b + held[i]) for i in range(a)]
                passed_on = [(c + j, b + handed[j]) for j in range(len(handed))]
                coming = list(transfer_rows(tuple((b + a + i, c + i) for i in range(many))))
                if any(piece[0] in ring and title in ring for ring in rings):
                    rows += [("keep", source) for _, source in kept] + list(transfer_rows(tuple(passed_on)))
                    rows += [("call", title, number)] + coming + [("fetch", b + i) for i in reversed(range(a))]
                else:
                    rows += list(transfer_rows(tuple(sorted(kept + passed_on)))) + [("call", title, number)] + coming
            elif row[0] in ("beat", "back", "jump"):
                rows.append(row)
            elif row[0] in ("number", "nought"):
                rows.append((row[0], b + row[1], row[2]))
            elif row[0] in ("div", "rem"):
                rows.append((row[0],) + tuple(b + cell for cell in row[1:4]) + row[4:])
            else:
                rows.append((row[0],) + tuple(b + cell for cell in row[1:]))
        blocks.append(rows)
    starts = [sum(len(rows) for rows in blocks[:number]) for number in range(len(blocks))]
    return tuple(row[:-1] + (starts[row[-1]],) if row[0] in ("jump", "nought") else row for rows in blocks for row in rows)


class RowMachine:
    """A run of linked rows, the pile looked at where a beat is taken."""

    def __init__(self, linked, held_of_ring_calls, rest=0):
        self.need, self.takes, self.gives, functions = linked
        self.rows = {title: rows for title, _, rows in functions}
        self.held = held_of_ring_calls
        self.rest = rest
        self.pile_holds = True

    def outcome(self, args, most):
        cells = list(args) + [self.rest] * (self.need - self.takes)
        told, pile, open_calls, beats = [], [], [], 0
        title, at = "main", 0
        while True:
            row = self.rows[title][at]
            verb, at = row[0], at + 1
            if verb == "beat":
                waiting = sum(self.held.get((caller, number), 0) for caller, _, number in open_calls)
                self.pile_holds = self.pile_holds and len(pile) == waiting
                if beats == most:
                    return (tuple(told), ("on",), beats)
                beats += 1
            elif verb == "tell":
                told.append(cells[row[1]])
            elif verb == "number":
                cells[row[1]] = row[2]
            elif verb == "move":
                cells[row[1]] = cells[row[2]]
            elif verb == "swap":
                cells[row[1]], cells[row[2]] = cells[row[2]], cells[row[1]]
            elif verb == "keep":
                pile.append(cells[row[1]])
            elif verb == "fetch":
                cells[row[1]] = pile.pop()
            elif verb == "jump" or verb == "nought" and cells[row[1]] == 0:
                at = row[-1]
            elif verb == "call":
                if len(open_calls) == 15:
                    return (tuple(told), ("fault", "deep", title, row[2]), beats)
                open_calls.append((title, at, row[2]))
                title, at = row[1], 0
            elif verb == "back":
                if not open_calls:
                    return (tuple(told), ("gave", tuple(cells[:self.gives])), beats)
                title, at, _ = open_calls.pop()
            elif verb != "nought":
                word = worked(verb, cells[row[2]], cells[row[3]])
                if word is None:
                    return (tuple(told), ("fault", "nought", title, row[4]), beats)
                cells[row[1]] = word
