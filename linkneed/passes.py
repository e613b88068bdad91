"""Passes one after another."""

from linkneed.dropping import drop_pass
from linkneed.errors import NotUsable
from linkneed.folding import fold_pass
from linkneed.lifting import lift_pass
from linkneed.straightening import straighten_pass

PASSES = ("fold", "drop", "straighten", "lift")


def passed(graph, names):
    """The graph behind the passes of these names."""
    return walked(graph, names)[0]


def pass_deeds(graph, names):
    """Deeds that make what passed gives, in the order in which they are done."""
    return walked(graph, names)[1]


def are_passes(thing):
    """Whether any value is a tuple of names of passes."""
    return isinstance(thing, tuple) and all([name in PASSES for name in thing])


def walked(graph, names):
    """The pair of what passed and pass_deeds give."""
    if not are_passes(names):
        raise NotUsable("names", -1)
    told = []
    for name in names:
        graph, deeds = _one_pass(graph, name)
        told.extend(deeds)
    return (graph, tuple(told))


def _one_pass(graph, name):
    if name == "fold":
        return fold_pass(graph)
    if name == "drop":
        return drop_pass(graph)
    if name == "straighten":
        return straighten_pass(graph)
    return lift_pass(graph)
