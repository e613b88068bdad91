"""Stands: which mark is in which register at each spot of a settled graph."""

from linkneed.awaiting import awaited_at_spots
from linkneed.kinds import is_number
from linkneed.lives import check_spot
from linkneed.orders import dominators, forward_order


def stands_of(graph):
    """For each block the tuple of the stands at its spots."""
    awaited = awaited_at_spots(graph)
    nearest = dominators(graph)
    table = {}
    # In this order a block's strict dominators stand before it.
    for block in forward_order(graph):
        if block == 0:
            stand = list(graph[2][0][0])
        else:
            stand = _stand_at_entry(table[nearest[block]][-1], awaited[block][0], graph[2][block][0])
        table[block] = _stands_behind(stand, awaited[block], graph[2][block][1])
    return tuple([table[block] for block in range(len(graph[2]))])


def _stand_at_entry(former, awaited, takes):
    stand = [mark if mark in awaited and mark not in takes else None for mark in former]
    for mark in takes:
        _put_lowest(stand, mark)
    return stand


def _stands_behind(stand, awaited, steps):
    stands = [_trimmed(stand)]
    for index, step in enumerate(steps):
        alive = awaited[index + 1]
        if step[1] == "call":
            stand = _stand_behind_call(stand, alive, step[0])
        else:
            stand = [mark if mark in alive else None for mark in stand]
            for mark in step[0]:
                _put_lowest(stand, mark)
        stands.append(_trimmed(stand))
    return tuple(stands)


def _stand_behind_call(former, awaited, makes):
    across = [mark for mark in former if mark in awaited and mark not in makes]
    many = len(across)
    stand = [mark if mark in across else None for mark in former[:many]]
    for mark in former[many:]:
        if mark in across:
            _put_lowest(stand, mark)
    return stand + list(makes)


def _put_lowest(stand, mark):
    if None in stand:
        stand[stand.index(None)] = mark
    else:
        stand.append(mark)


def _trimmed(stand):
    length = len(stand)
    while length > 0 and stand[length - 1] is None:
        length -= 1
    return tuple(stand[:length])


def register_at(graph, block, index, one):
    """The register of the mark one at the spot; None if it does not stand there."""
    check_spot(graph, block, index)
    stand = stands_of(graph)[block][index]
    if is_number(one) and one in stand:
        return stand.index(one)
    return None
