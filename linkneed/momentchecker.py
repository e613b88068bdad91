"""Papers that state moments."""

from linkneed.errors import InvalidPaper
from linkneed.kinds import is_number, is_title
from linkneed.lives import crowd_at
from linkneed.programcalls import program_calls, weight_of


def lets_moment(graphs, thing):
    """The crowd of a moment."""
    if not _is_moment_form(thing):
        raise InvalidPaper("form", -1)
    calls, block, index = thing
    title, total = _led_to(graphs, calls)
    graph = [one for one in graphs if one[0] == title][0]
    if not _is_spot(graph, block, index):
        raise InvalidPaper("spot", -1)
    return total + crowd_at(graph, block, index)


def _is_moment_form(thing):
    if not isinstance(thing, tuple) or len(thing) != 3 or not isinstance(thing[0], tuple):
        return False
    return all([_is_call_form(call) for call in thing[0]]) and is_number(thing[1]) and is_number(thing[2])


def _is_call_form(thing):
    if not isinstance(thing, tuple) or len(thing) != 3:
        return False
    return is_title(thing[0]) and is_number(thing[1]) and is_number(thing[2])


def _led_to(graphs, calls):
    # The pair of the title of the function to which the calls lead, and the sum of their weights.
    found = {}
    for title, own in program_calls(graphs).items():
        for call in own:
            found[(title, call[0], call[1])] = call
    now = "main"
    total = 0
    for at, place in enumerate(calls):
        if place[0] != now or place not in found:
            raise InvalidPaper("call", at)
        now = found[place][2]
        total += weight_of(found[place])
    return (now, total)


def _is_spot(graph, block, index):
    # The spot behind the giving counts.
    if block < len(graph[2]):
        return index <= len(graph[2][block][1])
    return block == len(graph[2]) and index == 0
