"""Which marks are across the calls of a settled graph."""

from linkneed.awaiting import awaited_at_spots
from linkneed.errors import NotUsable
from linkneed.kinds import is_number
from linkneed.orders import is_block


def across_at(graph, block, index):
    """The set of the marks across the call that is step index of the block."""
    if not is_block(graph, block):
        raise NotUsable("block", -1)
    steps = graph[2][block][1]
    if not is_number(index) or index >= len(steps) or steps[index][1] != "call":
        raise NotUsable("index", -1)
    return _across(steps[index], awaited_at_spots(graph)[block][index + 1])


def calls_across(graph):
    """The list of the quadruples (block, index, called title, set of the marks across) of all calls, in order."""
    found = []
    for number, awaited in enumerate(awaited_at_spots(graph)):
        for index, step in enumerate(graph[2][number][1]):
            if step[1] == "call":
                found.append((number, index, step[3][0], _across(step, awaited[index + 1])))
    return found


def _across(step, awaited):
    return tuple(sorted([mark for mark in awaited if mark not in step[0]]))
