"""Moments whose crowd is the need of a program."""

from linkneed.basing import bases_of, need_of
from linkneed.needing import fullest_spot
from linkneed.programcalls import program_calls, weight_of
from linkneed.sheets import sheets_of


def moment_of(graphs):
    """A moment with the need, on whose call path no function comes twice."""
    sheets = sheets_of(graphs)
    bases = dict(bases_of(sheets))
    need = need_of(sheets)
    fullest = [title for title, own, _ in sheets if title in bases and bases[title] + own == need][0]
    graph = [one for one in graphs if one[0] == fullest][0]
    return (_fullest_paths(program_calls(graphs), bases)[fullest],) + fullest_spot(graph)


def _fullest_paths(calls, bases):
    # For main and each function that it reaches a call path whose weights sum up to the base. Each part from the start
    # of such a path is one, too, so that going on by calls that add just what the bases differ by leaves out none.
    paths = {"main": ()}
    pending = ["main"]
    while pending:
        title = pending.pop()
        for call in calls[title]:
            block, index, called = call[:3]
            if called not in paths and bases[called] == bases[title] + weight_of(call):
                paths[called] = paths[title] + ((title, block, index),)
                pending.append(called)
    return paths
