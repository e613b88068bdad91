"""The calls of a program."""

from linkneed.acrossing import calls_across
from linkneed.ringing import reached_tables
from linkneed.sheets import sheets_of


def program_calls(graphs):
    """For the title of each graph the list of its calls, in order of blocks and steps.

    A call is (block, index, title of the called function, set of the marks across, whether it is a ring call).
    """
    reached = reached_tables(sheets_of(graphs))
    calls = {}
    for graph in graphs:
        title = graph[0]
        calls[title] = [call + (title in reached[call[2]],) for call in calls_across(graph)]
    return calls


def weight_of(call):
    """The weight of such a call."""
    _, _, _, across, is_in_ring = call
    if is_in_ring:
        return 0
    return len(across)
