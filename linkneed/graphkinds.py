"""Whether values are graphs, loose graphs, settled graphs."""

from linkneed.awaiting import awaited_at_entries
from linkneed.graphparts import named_blocks
from linkneed.kinds import is_number, is_title, is_word
from linkneed.orders import forward_order

# How many marks a step of each verb but "call" makes and reads.
COUNTS = {
    "number": (1, 0), "copy": (1, 1), "add": (1, 2), "sub": (1, 2), "mul": (1, 2), "div": (1, 2), "rem": (1, 2),
    "less": (1, 2), "same": (1, 2), "tell": (0, 1), "beat": (0, 0),
}


def is_graph(thing):
    """Whether any value is a graph."""
    if not isinstance(thing, tuple) or len(thing) != 3 or not is_title(thing[0]) or not is_number(thing[1]):
        return False
    blocks = thing[2]
    if not isinstance(blocks, tuple) or len(blocks) == 0:
        return False
    return all([_is_block(block, len(blocks), thing[1]) for block in blocks]) and _is_wired(thing)


def _is_block(thing, many, gives):
    if not isinstance(thing, tuple) or len(thing) != 3 or not isinstance(thing[1], tuple):
        return False
    if not _are_unlike_marks(thing[0]) or not all([_is_step(step) for step in thing[1]]):
        return False
    return _is_ending(thing[2], many, gives)


def _are_marks(thing):
    return isinstance(thing, tuple) and all([is_number(mark) for mark in thing])


def _are_unlike_marks(thing):
    return _are_marks(thing) and len({mark: True for mark in thing}) == len(thing)


def _is_step(thing):
    if not isinstance(thing, tuple) or len(thing) != 4:
        return False
    makes, verb, reads, note = thing
    if not _are_unlike_marks(makes) or not _are_marks(reads) or not isinstance(verb, str):
        return False
    if verb == "call":
        return isinstance(note, tuple) and len(note) == 2 and is_title(note[0]) and is_number(note[1])
    if verb not in COUNTS or COUNTS[verb] != (len(makes), len(reads)):
        return False
    if verb == "number":
        return is_word(note)
    return is_number(note) and (note == 0 or verb in ("div", "rem"))


def _is_ending(thing, many, gives):
    if not isinstance(thing, tuple) or len(thing) == 0:
        return False
    if thing[0] == "to":
        return len(thing) == 3 and _is_later_block(thing[1], many) and _are_marks(thing[2])
    if thing[0] == "by":
        if len(thing) != 4 or not is_number(thing[1]) or not _is_later_block(thing[2], many):
            return False
        return _is_later_block(thing[3], many) and thing[2] != thing[3]
    return thing[0] == "give" and len(thing) == 2 and _are_marks(thing[1]) and len(thing[1]) == gives


def _is_later_block(thing, many):
    # No ending names block 0.
    return is_number(thing) and 0 < thing < many


def _is_wired(graph):
    counts = [0 for _ in graph[2]]
    for block in graph[2]:
        for target in named_blocks(block[2]):
            counts[target] += 1
    for block in graph[2]:
        if block[2][0] == "by":
            for target in named_blocks(block[2]):
                if counts[target] != 1 or len(graph[2][target][0]) > 0:
                    return False
    return len(forward_order(graph)) == len(graph[2])


def is_loose(thing):
    """Whether any value is a loose graph."""
    if not is_graph(thing) or any([len(block[0]) > 0 for block in thing[2][1:]]):
        return False
    if any([block[2][0] == "to" and len(block[2][2]) > 0 for block in thing[2]]):
        return False
    return _is_made_ahead(thing)


def is_settled(thing):
    """Whether any value is a settled graph."""
    if not is_graph(thing):
        return False
    made = [mark for block in thing[2] for mark in block[0]]
    made.extend([mark for block in thing[2] for step in block[1] for mark in step[0]])
    if len({mark: True for mark in made}) != len(made):
        return False
    for block in thing[2]:
        if block[2][0] == "to" and len(block[2][2]) != len(thing[2][block[2][1]][0]):
            return False
    return _is_made_ahead(thing)


def _is_made_ahead(graph):
    # Block 0 is entered only once, so that a mark lacks a making on some path if it is awaited there, but not taken.
    takes = graph[2][0][0]
    return all([mark in takes for mark in awaited_at_entries(graph)[0]])
