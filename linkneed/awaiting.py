"""Which marks are awaited where: some path from there comes to a reading ahead of any making."""

from linkneed.graphparts import ending_reads, named_blocks
from linkneed.orders import all_leaders


def awaited_at_entries(graph):
    """For each block a dict whose keys are the marks awaited at its spot 0, behind what it takes."""
    coming = all_leaders(graph)
    made = [_made_by_steps(block) for block in graph[2]]
    awaited = [{} for _ in graph[2]]
    pending = [(number, mark) for number, block in enumerate(graph[2]) for mark in _read_unmade(block)]
    while pending:
        number, mark = pending.pop()
        if mark in awaited[number]:
            continue
        awaited[number][mark] = True
        if mark not in graph[2][number][0]:
            pending.extend([(leader, mark) for leader in coming[number] if mark not in made[leader]])
    return awaited


def _made_by_steps(block):
    return {mark: True for step in block[1] for mark in step[0]}


def _read_unmade(block):
    # What the block reads before one of its own steps makes it.
    made = {}
    found = {}
    for step in block[1]:
        for mark in step[2]:
            if mark not in made:
                found[mark] = True
        for mark in step[0]:
            made[mark] = True
    for mark in ending_reads(block[2]):
        if mark not in made:
            found[mark] = True
    return list(found)


def awaited_at_spots(graph):
    """For each block the list of dicts whose keys are the marks awaited at its spots."""
    entries = awaited_at_entries(graph)
    return [_awaited_in_block(graph, entries, block) for block in graph[2]]


def _awaited_in_block(graph, entries, block):
    now = {mark: True for mark in ending_reads(block[2])}
    for target in named_blocks(block[2]):
        takes = graph[2][target][0]
        for mark in entries[target]:
            if mark not in takes:
                now[mark] = True
    spots = [now]
    for step in block[1][::-1]:
        now = {mark: True for mark in now if mark not in step[0]}
        for mark in step[2]:
            now[mark] = True
        spots.append(now)
    return spots[::-1]
