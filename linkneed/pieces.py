"""Pieces: the rows of a settled graph, its calls still open."""

from linkneed.edging import edge_pairs_by
from linkneed.needing import own_need
from linkneed.standing import stands_of
from linkneed.transferring import transfer_rows


def piece_of(graph, takes, gives):
    """The piece of a settled graph that takes and gives these structures."""
    stands = stands_of(graph)
    blocks = []
    for number, block in enumerate(graph[2]):
        rows = []
        for index, step in enumerate(block[1]):
            rows.extend(_step_rows(step, stands[number][index], stands[number][index + 1]))
        rows.extend(_ending_rows(graph, stands, number))
        blocks.append(tuple(rows))
    return (graph[0], takes, gives, own_need(graph), tuple(blocks))


def _step_rows(step, ahead, behind):
    # What is read stands as it did ahead of the step, what is made as it does behind it.
    makes, verb, reads, note = step
    read = tuple([ahead.index(mark) for mark in reads])
    if verb == "call":
        # Behind a call just the marks across it and those that it makes stand, without a gap.
        held = tuple([ahead.index(mark) for mark in behind if mark not in makes])
        return [("call", note[0], note[1], held, read, len(makes))]
    made = tuple([behind.index(mark) for mark in makes])
    if verb == "copy":
        return [("move",) + made + read] if made != read else []
    if verb in ("number", "div", "rem"):
        return [(verb,) + made + read + (note,)]
    return [(verb,) + made + read]


def _ending_rows(graph, stands, number):
    ending = graph[2][number][2]
    last = stands[number][-1]
    if ending[0] == "to":
        return list(transfer_rows(edge_pairs_by(graph, stands, number))) + _jump_rows(ending[1], number)
    if ending[0] == "by":
        return [("nought", last.index(ending[1]), ending[3])] + _jump_rows(ending[2], number)
    pairs = tuple([(place, last.index(mark)) for place, mark in enumerate(ending[1])])
    return list(transfer_rows(pairs)) + [("back",)]


def _jump_rows(target, number):
    if target == number + 1:
        return []
    return [("jump", target)]
