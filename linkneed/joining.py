"""Placings: blocks at whose entries marks are made anew."""

from linkneed.errors import InvalidPaper
from linkneed.graphparts import ending_reads, makings_of, named_blocks
from linkneed.kinds import is_number
from linkneed.orders import all_leaders, forward_order
from linkneed.placings import least_placing

# In the place of a last making: it is not the same one, or there is none, on some paths.
NOT_ONE = (-1, -1)


def joins_of(loose):
    """The right placing that lies in every right one."""
    return tuple([(block, mark) for block, marks in enumerate(least_placing(loose)) for mark in marks])


def lets_placing(loose, thing):
    """How many pairs the placing has, if it is right."""
    if not _is_pair_set(thing):
        raise InvalidPaper("set", -1)
    made = makings_of(loose)
    for at, (block, mark) in enumerate(thing):
        if block == 0 or block >= len(loose[2]):
            raise InvalidPaper("block", at)
        if mark not in made:
            raise InvalidPaper("mark", at)
    paired = [[] for _ in loose[2]]
    for block, mark in thing:
        paired[block].append(mark)
    for number, entry in enumerate(_entry_makings(loose, paired)):
        _check_block(loose, paired, number, entry)
    return len(thing)


def _is_pair_set(thing):
    if not isinstance(thing, tuple) or not all([_is_pair(pair) for pair in thing]):
        return False
    return all([one < other for one, other in zip(thing, thing[1:])])


def _is_pair(thing):
    return isinstance(thing, tuple) and len(thing) == 2 and is_number(thing[0]) and is_number(thing[1])


def _entry_makings(loose, paired):
    # For each block a dict of the last makings of marks, positions as in makings_of, behind its entry.
    coming = all_leaders(loose)
    entries = {0: {mark: (0, -1) for mark in loose[2][0][0]}}
    ends = {0: _behind_steps(loose, 0, entries[0])}
    changed = True
    while changed:
        changed = False
        for block in forward_order(loose)[1:]:
            entry = _met([ends[leader] for leader in coming[block] if leader in ends])
            for mark in paired[block]:
                entry[mark] = (block, -1)
            if entries.get(block) != entry:
                changed = True
                entries[block] = entry
                ends[block] = _behind_steps(loose, block, entry)
    return [entries[block] for block in range(len(loose[2]))]


def _met(tables):
    met = {}
    for mark in {mark: True for table in tables for mark in table}:
        making = tables[0].get(mark, NOT_ONE)
        if any([table.get(mark, NOT_ONE) != making for table in tables[1:]]):
            making = NOT_ONE
        met[mark] = making
    return met


def _behind_steps(loose, number, entry):
    behind = dict(entry)
    for index, step in enumerate(loose[2][number][1]):
        for mark in step[0]:
            behind[mark] = (number, index)
    return behind


def _check_block(loose, paired, number, entry):
    _, steps, ending = loose[2][number]
    makings = dict(entry)
    for index, step in enumerate(steps):
        _check_reading(step[2], makings, (number, index))
        for mark in step[0]:
            makings[mark] = (number, index)
    asked = list(ending_reads(ending))
    for target in named_blocks(ending):
        asked.extend(paired[target])
    _check_reading(asked, makings, (number, len(steps)))


def _check_reading(marks, makings, place):
    if any([makings.get(mark, NOT_ONE) == NOT_ONE for mark in marks]):
        raise InvalidPaper("reading", place)
