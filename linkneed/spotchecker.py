"""Papers that state what is alive at a spot."""

from linkneed.errors import InvalidPaper
from linkneed.kinds import is_number, is_number_set
from linkneed.lives import alive_at, crowd_at
from linkneed.orders import is_block


def lets_spot(graph, thing):
    """The crowd of the spot, if the marks of the triple (block, index, marks) are just those alive there."""
    if not isinstance(thing, tuple) or len(thing) != 3:
        raise InvalidPaper("form", -1)
    block, index, marks = thing
    alive = _alive_there(graph, block, index)
    if not is_number_set(marks):
        raise InvalidPaper("marks", -1)
    for at, mark in enumerate(marks):
        if mark not in alive:
            raise InvalidPaper("mark", at)
    if len(marks) < len(alive):
        raise InvalidPaper("many", -1)
    return crowd_at(graph, block, index)


def _alive_there(graph, block, index):
    many = len(graph[2])
    if is_number(block) and block == many:
        if not is_number(index) or index != 0:
            raise InvalidPaper("index", -1)
        return ()
    if not is_block(graph, block):
        raise InvalidPaper("block", -1)
    if not is_number(index) or index > len(graph[2][block][1]):
        raise InvalidPaper("index", -1)
    return alive_at(graph, block, index)
