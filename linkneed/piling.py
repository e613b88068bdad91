"""How many words ring calls keep on the pile."""

from linkneed.programcalls import program_calls
from linkneed.ringing import reached_from
from linkneed.sheets import sheets_of


def pile_words(graphs):
    """The set of the pairs (title, number): the greatest number of marks across a ring call of the function."""
    reached = reached_from(sheets_of(graphs), "main")
    found = []
    for title, calls in program_calls(graphs).items():
        if title == "main" or title in reached:
            found.append((title, max([len(across) for _, _, _, across, is_in_ring in calls if is_in_ring], default=0)))
    return tuple(sorted(found))
