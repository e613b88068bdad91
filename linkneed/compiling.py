"""Units compiled, each by itself."""

from linkneed.errors import NotUsable
from linkneed.graphing import graph_of
from linkneed.passes import are_passes, passed
from linkneed.pieces import piece_of
from linkneed.settling import settled
from linkneed.structures import signatures_in


def compile_unit(unit, names):
    """The object of a fit unit, its graphs passed by the names."""
    if not are_passes(names):
        raise NotUsable("names", -1)
    signatures = signatures_in(unit)
    uses = [(title, signatures[title][0], signatures[title][1]) for title in sorted([use[0] for use in unit[2]])]
    pieces = []
    for title in sorted([function[0] for function in unit[3]]):
        takes, gives = signatures[title]
        pieces.append(piece_of(passed(settled(graph_of(unit, title)), names), takes, gives))
    return (tuple(uses), tuple(pieces))
