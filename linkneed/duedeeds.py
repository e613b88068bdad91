"""Which deeds are due in a settled graph."""

from linkneed.dropping import read_by_the_rest, sources_of
from linkneed.folding import known_word, marks_read, twice_key
from linkneed.graphparts import handings_of, is_safe, makings_of, number_words, step_at
from linkneed.orders import dominates, is_block
from linkneed.straightening import join_blocks, straight_blocks


def is_deed_due(graph, deed):
    """Whether a deed, a tuple of the form of one, is due."""
    word = deed[0]
    if word == "drop":
        return _is_drop_due(graph, deed[1])
    if word == "straight":
        return deed[1] in straight_blocks(graph)
    if word == "join":
        return deed[1] in join_blocks(graph)
    makings = makings_of(graph)
    if deed[1] not in makings:
        return False
    if word == "number":
        step = step_at(graph, makings[deed[1]])
        return step is not None and known_word(step, number_words(graph)) == deed[2]
    if word == "same":
        return _is_same_due(graph, makings, deed[1], deed[2])
    return _is_ahead_due(graph, makings, deed[1], deed[2])


def _is_same_due(graph, makings, mark, other):
    if mark == other or other not in makings or mark not in marks_read(graph):
        return False
    step = step_at(graph, makings[mark])
    if step is None:
        return _is_take_due(graph, makings[mark][0], mark, other)
    if step[1] == "copy":
        return step[2] == (other,)
    former = step_at(graph, makings[other])
    if former is None or twice_key(step) is None or twice_key(step) != twice_key(former):
        return False
    return _is_strictly_ahead(graph, makings[other], makings[mark])


def _is_take_due(graph, block, mark, other):
    at = graph[2][block][0].index(mark)
    return block != 0 and all([handed[at] in (mark, other) for handed in handings_of(graph)[block]])


def _is_strictly_ahead(graph, one, other):
    # Whether position one strictly dominates position other.
    if one[0] == other[0]:
        return one[1] < other[1]
    return dominates(graph, one[0], other[0])


def _is_drop_due(graph, marks):
    words = number_words(graph)
    sources = sources_of(graph, words)
    if not all([mark in sources for mark in marks]):
        return False
    # What is read for a mark that stays has to stay, too.
    needed = read_by_the_rest(graph, words)
    for mark in sources:
        if mark not in marks:
            needed.extend(sources[mark])
    return not any([mark in marks for mark in needed])


def _is_ahead_due(graph, makings, mark, block):
    home = makings[mark][0]
    step = step_at(graph, makings[mark])
    if step is None or not is_block(graph, block) or not is_safe(step, number_words(graph)):
        return False
    if block == home or not dominates(graph, block, home):
        return False
    return all([dominates(graph, makings[one][0], block) for one in step[2]])
