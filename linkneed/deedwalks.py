"""Papers that state deeds, done one after another."""

from linkneed.deedkinds import is_deed
from linkneed.deeds import graph_behind, is_due
from linkneed.errors import InvalidPaper


def lets_deeds(graph, thing):
    """The graph behind the deeds, if each is due behind those ahead."""
    if not isinstance(thing, tuple):
        raise InvalidPaper("list", -1)
    behind = graph
    for at, deed in enumerate(thing):
        if not is_deed(deed):
            raise InvalidPaper("deed", at)
        if not is_due(behind, deed):
            raise InvalidPaper("due", at)
        behind = graph_behind(behind, deed)
    return behind
