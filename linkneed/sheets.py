"""Sheets: what a function needs itself, and how many marks are across its calls."""

from linkneed.acrossing import calls_across
from linkneed.kinds import is_number, is_title
from linkneed.needing import own_need


def is_sheet(thing):
    """Whether any value is a sheet."""
    if not isinstance(thing, tuple) or len(thing) != 3 or not is_title(thing[0]) or not is_number(thing[1]):
        return False
    return isinstance(thing[2], tuple) and all([_is_call(call) for call in thing[2]])


def _is_call(thing):
    return isinstance(thing, tuple) and len(thing) == 2 and is_title(thing[0]) and is_number(thing[1])


def is_sheets(thing):
    """Whether any value is a tuple of sheets with unlike titles."""
    if not isinstance(thing, tuple) or not all([is_sheet(sheet) for sheet in thing]):
        return False
    return len({sheet[0]: True for sheet in thing}) == len(thing)


def sheet_of(graph):
    """The sheet of a settled graph."""
    calls = tuple([(called, len(across)) for _, _, called, across in calls_across(graph)])
    return (graph[0], own_need(graph), calls)


def sheets_of(graphs):
    """The sheets of all graphs of a program, ascending."""
    return tuple(sorted([sheet_of(graph) for graph in graphs]))
