"""The stands of a graph as objects."""

from linkneed.acrossing import calls_across
from linkneed.edging import edge_pairs
from linkneed.errors import NotUsable
from linkneed.graphkinds import is_settled
from linkneed.graphparts import makings_of
from linkneed.homes import homes_of
from linkneed.kinds import is_number
from linkneed.lives import check_spot, crowd_at, crowds_of
from linkneed.needing import own_need
from linkneed.orders import is_block
from linkneed.standchecker import lets_stands
from linkneed.standing import register_at, stands_of
from linkneed.transferring import transfer_rows


class Stands:
    """A settled graph and its stands; it never changes."""

    def __init__(self, graph):
        if not is_settled(graph):
            raise NotUsable("graph", -1)
        self.graph_kept = graph
        self.stands_kept = stands_of(graph)
        self.crowds_kept = crowds_of(graph)
        self.makings_kept = makings_of(graph)
        self.own_kept = own_need(graph)

    @property
    def graph_now(self):
        """The graph."""
        return self.graph_kept

    @property
    def own_now(self):
        """The own need of the graph."""
        return self.own_kept

    @staticmethod
    def registers_by(graph, thing):
        """How many registers a table of stands has, if it is right."""
        return lets_stands(graph, thing)

    def __getitem__(self, at):
        block, index = at
        check_spot(self.graph_kept, block, index)
        return self.stands_kept[block][index]

    def __call__(self, block, index=0):
        return crowd_at(self.graph_kept, block, index)

    def __iter__(self):
        return iter(self.stands_kept)

    def __contains__(self, thing):
        return is_number(thing) and thing in self.makings_kept

    def __eq__(self, other):
        return isinstance(other, Stands) and self.graph_kept == other.graph_kept

    def register_at(self, mark, *, block, index=0):
        """The register of the mark at the spot; None if it does not stand there."""
        return register_at(self.graph_kept, block, index, mark)

    def moves(self, block):
        """The rows that move what stands where the block goes to another one."""
        return transfer_rows(edge_pairs(self.graph_kept, block))

    def most(self, *blocks):
        """The greatest crowd at the spots of these blocks; 0 for none."""
        if not all([is_block(self.graph_kept, block) for block in blocks]):
            raise NotUsable("blocks", -1)
        return max([max(self.crowds_kept[block]) for block in blocks], default=0)


class Still(Stands):
    """A settled graph without calls, in which each mark has one register; it never changes."""

    def __init__(self, graph):
        super().__init__(graph)
        if len(calls_across(graph)) > 0:
            raise NotUsable("graph", -1)
        self.homes_kept = dict(homes_of(graph))

    def home(self, mark):
        """The register of the mark."""
        if not is_number(mark) or mark not in self.homes_kept:
            raise NotUsable("mark", -1)
        return self.homes_kept[mark]

    def marks_in(self, number):
        """The set of the marks with this register."""
        return tuple([mark for mark, cell in self.homes_kept.items() if is_number(number) and cell == number])
