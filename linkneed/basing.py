"""The bases of functions, and the need of all together, by their sheets."""

from linkneed.errors import Missing
from linkneed.ringing import reached_tables


def bases_of(sheets):
    """The set of the pairs (title, base) of main and of each function that it reaches."""
    return tuple(sorted(list(_bases(sheets).items())))


def need_of(sheets):
    """The greatest sum of a base and the function's own need."""
    bases = _bases(sheets)
    return max([bases[title] + own for title, own, _ in sheets if title in bases])


def _bases(sheets):
    reached = reached_tables(sheets)
    if "main" not in reached:
        raise Missing("main")
    calls = {title: called for title, _, called in sheets}
    _check_called(calls, reached["main"])
    bases = {"main": 0}
    pending = ["main"]
    while pending:
        title = pending.pop()
        for called, many in calls[title]:
            base = bases[title]
            # Only a call that is no ring call has a weight, so that rings do not rise for ever.
            if title not in reached[called]:
                base = base + many
            if base > bases.get(called, -1):
                bases[called] = base
                pending.append(called)
    return bases


def _check_called(calls, reached):
    for title in sorted(["main"] + [one for one in reached if one != "main"]):
        for called, _ in calls.get(title, ()):
            if called not in calls:
                raise Missing(called)
