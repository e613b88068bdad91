"""Deeds done in a settled graph."""

from linkneed.deedkinds import is_deed
from linkneed.dropping import without_marks
from linkneed.duedeeds import is_deed_due
from linkneed.errors import NotUsable
from linkneed.graphparts import makings_of, renamed_graph, with_steps
from linkneed.straightening import joined, made_straight


def is_due(graph, deed):
    """Whether the deed is due."""
    if not is_deed(deed):
        raise NotUsable("deed", -1)
    return is_deed_due(graph, deed)


def done(graph, deed):
    """The graph behind a deed that is due."""
    if not is_due(graph, deed):
        raise NotUsable("deed", -1)
    return graph_behind(graph, deed)


def graph_behind(graph, deed):
    """What done gives, for a deed known to be due."""
    word = deed[0]
    if word == "number":
        return _with_number(graph, deed[1], deed[2])
    if word == "same":
        return renamed_graph(graph, {deed[1]: deed[2]})
    if word == "drop":
        return without_marks(graph, deed[1])
    if word == "straight":
        return made_straight(graph, deed[1])
    if word == "join":
        return joined(graph, deed[1])
    return _moved_ahead(graph, deed[1], deed[2])


def _with_number(graph, mark, word):
    block, index = makings_of(graph)[mark]
    steps = graph[2][block][1]
    return with_steps(graph, block, steps[:index] + (((mark,), "number", (), word),) + steps[index + 1:])


def _moved_ahead(graph, mark, block):
    home, index = makings_of(graph)[mark]
    steps = graph[2][home][1]
    without = with_steps(graph, home, steps[:index] + steps[index + 1:])
    return with_steps(without, block, graph[2][block][1] + (steps[index],))
