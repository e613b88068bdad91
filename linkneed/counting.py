"""What is counted in runs of units."""

from linkneed.treeruns import ended_run


def entries_of(units, args, most):
    """The set of the pairs (title, how often the function was entered) of all functions."""
    return tuple(sorted(list(ended_run(units, args, most).entries.items())))


def open_most(units, args, most):
    """The greatest number of functions that were open at once."""
    return ended_run(units, args, most).most_open
