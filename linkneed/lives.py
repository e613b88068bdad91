"""Which marks are awaited and alive at the spots of a settled graph."""

from linkneed.awaiting import awaited_at_spots
from linkneed.errors import NotUsable
from linkneed.kinds import is_number
from linkneed.orders import is_block


def awaited_at(graph, block, index):
    """The set of the marks awaited at the spot; none behind the giving."""
    if _is_behind_giving(graph, block, index):
        return ()
    return tuple(sorted(awaited_at_spots(graph)[block][index]))


def alive_at(graph, block, index):
    """The set of the marks alive at the spot of a block."""
    check_spot(graph, block, index)
    return alive_spots(graph)[block][index]


def crowd_at(graph, block, index):
    """How many marks are alive at the spot; behind the giving, how many words are given."""
    if _is_behind_giving(graph, block, index):
        return graph[1]
    return crowds_of(graph)[block][index]


def crowds_of(graph):
    """For each block the tuple of the crowds of its spots."""
    return tuple([tuple([len(alive) for alive in spots]) for spots in alive_spots(graph)])


def alive_spots(graph):
    """For each block the list of the sets of the marks alive at its spots."""
    return [_alive_in_block(block, spots) for block, spots in zip(graph[2], awaited_at_spots(graph))]


def _alive_in_block(block, spots):
    # The makings just ahead of each spot: the entry, then the steps.
    made = [block[0]] + [step[0] for step in block[1]]
    alive = []
    for awaited, makes in zip(spots, made):
        here = dict(awaited)
        for mark in makes:
            here[mark] = True
        alive.append(tuple(sorted(here)))
    return alive


def _is_behind_giving(graph, block, index):
    # Also refuses what is no spot.
    if is_number(block) and block == len(graph[2]):
        if not is_number(index) or index != 0:
            raise NotUsable("index", -1)
        return True
    check_spot(graph, block, index)
    return False


def check_spot(graph, block, index):
    """Refuses what is no spot of a block."""
    if not is_block(graph, block):
        raise NotUsable("block", -1)
    if not is_number(index) or index > len(graph[2][block][1]):
        raise NotUsable("index", -1)
