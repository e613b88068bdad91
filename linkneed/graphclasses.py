"""Graphs as objects."""

from linkneed.errors import NotUsable
from linkneed.graphing import graph_of
from linkneed.graphkinds import is_graph, is_loose, is_settled
from linkneed.graphparts import makings_of
from linkneed.joining import joins_of, lets_placing
from linkneed.kinds import is_number
from linkneed.loosening import loosened
from linkneed.orders import followers
from linkneed.settling import settled


class Flow:
    """A graph; it never changes."""

    def __init__(self, graph):
        if not is_graph(graph):
            raise NotUsable("graph", -1)
        self.graph_kept = graph
        self.blocks_kept = graph[2]
        self.kind_kept = (is_loose(graph), is_settled(graph))
        self.makings_kept = makings_of(graph)
        self.lines_kept = tuple([_line(graph, number) for number in range(len(graph[2]))])

    @property
    def graph_now(self):
        """The graph."""
        return self.graph_kept

    @property
    def kind_now(self):
        """Whether the graph is loose, and whether it is settled."""
        return self.kind_kept

    @classmethod
    def of_unit(cls, unit, title):
        """An object of the unit's function of this title."""
        return cls(graph_of(unit, title))

    def __len__(self):
        return len(self.blocks_kept)

    def __iter__(self):
        return iter(self.blocks_kept)

    def __contains__(self, thing):
        return is_number(thing) and thing in self.makings_kept

    def __str__(self):
        return "\n".join(self.lines_kept)

    def __eq__(self, other):
        return isinstance(other, Flow) and self.graph_kept == other.graph_kept

    def counts(self):
        """How many blocks, steps, marks there are."""
        many_steps = sum([len(block[1]) for block in self.blocks_kept])
        return (len(self.blocks_kept), many_steps, len(self.makings_kept))

    def lines(self):
        """For each block its number and its followers."""
        return self.lines_kept

    def settle(self):
        """A Flow of the settled graph of a loose one."""
        if not self.kind_kept[0]:
            raise NotUsable("graph", -1)
        return Flow(settled(self.graph_kept))

    def loosen(self):
        """A Loose of the loosened graph of a settled one."""
        if not self.kind_kept[1]:
            raise NotUsable("graph", -1)
        return Loose(loosened(self.graph_kept))


class Loose(Flow):
    """A loose graph; it never changes."""

    def __init__(self, graph):
        super().__init__(graph)
        if not self.kind_kept[0]:
            raise NotUsable("graph", -1)

    @classmethod
    def of_unit(cls, unit, title):
        """An object of the unit's function of this title."""
        return cls(graph_of(unit, title))

    def joins(self):
        """The right placing that lies in every right one."""
        return joins_of(self.graph_kept)

    def lets(self, thing):
        """How many pairs a right placing has."""
        return lets_placing(self.graph_kept, thing)


def _line(graph, number):
    return " ".join([f"{number}:"] + [str(follower) for follower in followers(graph, number)])
