"""Random programs of settled graphs, and what the document says of their moments and holdings, told plainly."""

from tests import linkoracles, oracles
from tests.samples import SettledMaker


class ProgramMaker(SettledMaker):
    """Makes a random program; with the share of rings calls go back to functions ahead, too."""

    def __init__(self, seed, rings=0.2, **options):
        super().__init__(seed, **options)
        self.rings = rings

    def program(self):
        self.titles = ["main"] + [f"f{number}" for number in range(self.random.randrange(5))]
        self.signatures = {title: (self.random.randrange(3), self.random.randrange(3)) for title in self.titles}
        graphs = []
        for title in self.titles:
            self.caller = title
            graphs.append(self.graph(title, *self.signatures[title]))
        self.random.shuffle(graphs)
        return tuple(graphs)

    def _call(self, pick):
        later = self.titles[self.titles.index(self.caller) + 1:]
        called = self.titles if self.random.random() < self.rings else later
        if not called:
            return (tuple(self._marks(1)), "copy", (pick(),), 0)
        title = self.random.choice(called)
        taken, gives = self.signatures[title]
        reads = tuple(pick() for _ in range(taken))
        return (tuple(self._marks(gives)), "call", reads, (title, self.random.randrange(9)))


class CallingMaker(ProgramMaker):
    """Makes programs with more calls."""

    def _step(self, here):
        if here and self.random.random() < 0.35:
            return self._call(lambda: self.random.choice(here))
        return super()._step(here)


def programs(many, seed=0, maker=CallingMaker, **options):
    """Random programs, always the same ones for the same arguments."""
    return [maker(seed * 7919 + number, **options).program() for number in range(many)]


def calls_of(graph):
    """The places (block, index) of the calls of a graph."""
    return [(number, index) for number, block in enumerate(graph[2]) for index, step in enumerate(block[1])
            if step[1] == "call"]


def plain_sheets(graphs):
    sheets = []
    for graph in graphs:
        own = max([graph[1]] + [len(oracles.alive(graph, block, index)) for block, index in oracles.spots(graph)])
        calls = tuple((graph[2][block][1][index][3][0], len(oracles.across(graph, block, index)))
                      for block, index in calls_of(graph))
        sheets.append((graph[0], own, calls))
    return tuple(sheets)


def laid_titles(graphs):
    return sorted({"main"} | linkoracles.reached(plain_sheets(graphs), "main"))


def is_ring_call(sheets, caller, called):
    return called == caller or caller in linkoracles.reached(sheets, called)


def all_spots(graph):
    return oracles.spots(graph) + [(len(graph[2]), 0)]


class Paths:
    """All call paths of a program on which no function comes more often than so many times."""

    def __init__(self, graphs, often=1):
        self.by_title = {graph[0]: graph for graph in graphs}
        self.sheets = plain_sheets(graphs)
        self.often = often

    def paths(self):
        """Pairs of a path of triples (title, block, index) and the function to which it leads."""
        pending = [((), "main", ("main",))]
        while pending:
            path, title, come = pending.pop()
            yield path, title
            graph = self.by_title[title]
            for block, index in calls_of(graph):
                called = graph[2][block][1][index][3][0]
                if come.count(called) < self.often:
                    pending.append((path + ((title, block, index),), called, come + (called,)))

    def weight(self, call):
        title, block, index = call
        graph = self.by_title[title]
        across = oracles.across(graph, block, index)
        return linkoracles.weight(self.sheets, title, graph[2][block][1][index][3][0], len(across))

    def crowd(self, path, title, spot):
        graph = self.by_title[title]
        here = graph[1] if spot[0] == len(graph[2]) else len(oracles.alive(graph, *spot))
        return sum(map(self.weight, path)) + here


def random_holding(graphs, source, registers):
    """Unlike registers at each spot, chosen anyhow."""
    by_title = {graph[0]: graph for graph in graphs}
    pairs = []
    for title in laid_titles(graphs):
        graph = by_title[title]
        blocks = []
        for block, (_, steps, _) in enumerate(graph[2]):
            blocks.append(tuple(tuple(source.sample(range(registers), len(oracles.alive(graph, block, index))))
                                for index in range(len(steps) + 1)))
        blocks.append((tuple(source.sample(range(registers), graph[1])),))
        pairs.append((title, tuple(blocks)))
    return tuple(pairs)


def wrong_call(graphs, holding):
    """The place (pair, block, index) of the first call at which [9] is not kept; None if there is none."""
    by_title = {graph[0]: graph for graph in graphs}
    sheets = plain_sheets(graphs)
    had = {title: {cell for spots in blocks for cells in spots for cell in cells} for title, blocks in holding}
    for at, (title, blocks) in enumerate(holding):
        graph = by_title[title]
        for block, index in calls_of(graph):
            called = graph[2][block][1][index][3][0]
            if is_ring_call(sheets, title, called):
                continue
            alive = oracles.alive(graph, block, index + 1)
            held = {blocks[block][index + 1][alive.index(mark)] for mark in oracles.across(graph, block, index)}
            if any(held & had[one] for one in {called} | linkoracles.reached(sheets, called)):
                return (at, block, index)
    return None
