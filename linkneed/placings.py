"""Where a loose graph needs a mark to be taken anew: several makings of it come together there."""

from linkneed.awaiting import awaited_at_entries
from linkneed.orders import all_leaders, dominators


def least_placing(loose):
    """For each block the ascending list of the marks that the right placing in every right one pairs with it."""
    borders = _borders_of(loose)
    awaited = awaited_at_entries(loose)
    placed = [[] for _ in loose[2]]
    makers = _making_blocks(loose)
    for mark in sorted(makers):
        for block in _meeting_blocks(borders, makers[mark]):
            if mark in awaited[block]:
                placed[block].append(mark)
    return placed


def _making_blocks(graph):
    makers = {}
    for number, block in enumerate(graph[2]):
        for mark in block[0]:
            makers.setdefault(mark, []).append(number)
        for step in block[1]:
            for mark in step[0]:
                makers.setdefault(mark, []).append(number)
    return makers


def _borders_of(graph):
    # For each block those that it does not strictly dominate, though it dominates a leader of theirs.
    nearest = dominators(graph)
    borders = [{} for _ in graph[2]]
    for block, coming in enumerate(all_leaders(graph)):
        for leader in coming:
            one = leader
            while one != nearest[block]:
                borders[one][block] = True
                one = nearest[one]
    return borders


def _meeting_blocks(borders, makers):
    # The borders of the makers, and of these borders, and so on.
    met = {}
    pending = list(makers)
    while pending:
        for border in borders[pending.pop()]:
            if border not in met:
                met[border] = True
                pending.append(border)
    return list(met)
