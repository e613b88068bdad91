"""Graphs bettered step by step, as objects."""

from linkneed.deeds import done, is_due
from linkneed.errors import NothingToUndo, NotUsable
from linkneed.graphkinds import is_settled
from linkneed.kinds import is_number
from linkneed.passes import PASSES, walked


class Bettering:
    """A row of settled graphs, each one made by deeds of the one ahead."""

    def __init__(self, graph):
        if not is_settled(graph):
            raise NotUsable("graph", -1)
        self.graphs_kept = [graph]
        # For each graph of the row but the first the deeds that make it.
        self.deeds_kept = []

    @property
    def graph_now(self):
        """The present graph, the last one of the row."""
        return self.graphs_kept[-1]

    @property
    def many_now(self):
        """How many graphs follow the first one."""
        return len(self.deeds_kept)

    @classmethod
    def behind(cls, graph, *deeds):
        """A Bettering by which each of these deeds has been done in turn."""
        made = cls(graph)
        for deed in deeds:
            made.done(deed)
        return made

    def __iter__(self):
        return iter(self.graphs_kept)

    def __eq__(self, other):
        return isinstance(other, Bettering) and self.graphs_kept[-1] == other.graphs_kept[-1]

    def __call__(self, deed):
        return done(self.graphs_kept[-1], deed)

    def is_due(self, deed):
        """Whether the deed is due in the present graph."""
        return is_due(self.graphs_kept[-1], deed)

    def done(self, deed):
        """Adds the graph behind the deed."""
        self._add(done(self.graphs_kept[-1], deed), (deed,))

    def passed(self, name):
        """Adds the graph behind the pass of this name."""
        if name not in PASSES:
            raise NotUsable("name", -1)
        graph, deeds = walked(self.graphs_kept[-1], (name,))
        self._add(graph, deeds)

    def back(self, *, many=1):
        """Takes graphs off the end of the row; the present graph."""
        if not is_number(many):
            raise NotUsable("many", -1)
        if many > len(self.deeds_kept):
            raise NothingToUndo(len(self.deeds_kept))
        kept = len(self.deeds_kept) - many
        self.graphs_kept = self.graphs_kept[:kept + 1]
        self.deeds_kept = self.deeds_kept[:kept]
        return self.graphs_kept[-1]

    def deeds(self):
        """Deeds by which lets_deeds makes the present graph of the first one."""
        return tuple([deed for deeds in self.deeds_kept for deed in deeds])

    def _add(self, graph, deeds):
        # New lists, so that one that is iterated over stays as it was.
        self.graphs_kept = self.graphs_kept + [graph]
        self.deeds_kept = self.deeds_kept + [deeds]
