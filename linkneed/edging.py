"""What has to move between registers where a block goes to another one."""

from linkneed.errors import NotUsable
from linkneed.orders import is_block
from linkneed.standing import stands_of


def edge_pairs(graph, block):
    """The transfers at the end of a block that goes "to" another; () for other endings."""
    if not is_block(graph, block):
        raise NotUsable("block", -1)
    return edge_pairs_by(graph, stands_of(graph), block)


def edge_pairs_by(graph, stands, block):
    """What edge_pairs tells, by the stands of the graph."""
    ending = graph[2][block][2]
    if ending[0] != "to":
        return ()
    target = ending[1]
    handed = dict(zip(graph[2][target][0], ending[2]))
    last = stands[block][-1]
    pairs = []
    for place, mark in enumerate(stands[target][0]):
        if mark is not None:
            pairs.append((place, last.index(handed.get(mark, mark))))
    return tuple(pairs)
