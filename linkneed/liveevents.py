"""Events and logs of a live bench."""

from linkneed.kinds import is_size, is_title
from linkneed.passes import are_passes
from linkneed.unitforms import is_unit


def is_event(thing):
    """Whether any value is an event."""
    if not isinstance(thing, tuple) or len(thing) != 2:
        return False
    if thing[0] == "put":
        return is_unit(thing[1])
    if thing[0] == "drop":
        return is_title(thing[1])
    if thing[0] == "passes":
        return are_passes(thing[1])
    return thing[0] == "registers" and is_size(thing[1])


def is_log(thing):
    """Whether any value is a log."""
    if not isinstance(thing, tuple) or len(thing) != 3:
        return False
    if not is_size(thing[0]) or not are_passes(thing[1]) or not isinstance(thing[2], tuple):
        return False
    return all([is_event(event) for event in thing[2]])
