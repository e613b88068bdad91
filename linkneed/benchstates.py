"""States of a bench, triples (units, names, size), the units ascending; and what events make of them."""

from linkneed.errors import InvalidEvent, Unfit
from linkneed.judging import judge_unit
from linkneed.liveevents import is_event


def state_behind(state, event):
    """The state that the event leaves; InvalidEvent if the event by itself, or its title, does not let it."""
    if not is_event(event):
        raise InvalidEvent(event, "form")
    units, names, size = state
    word, thing = event
    if word == "passes":
        return (units, thing, size)
    if word == "registers":
        return (units, names, thing)
    if word == "drop":
        if not has_unit(units, thing):
            raise InvalidEvent(event, "unknown")
        return (_without(units, thing), names, size)
    try:
        judge_unit(thing)
    except Unfit:
        raise InvalidEvent(event, "unfit") from None
    return (tuple(sorted(_without(units, thing[0]) + (thing,))), names, size)


def has_unit(units, name):
    """Whether any value is the title of one of the units."""
    return any([unit[0] == name for unit in units])


def _without(units, title):
    return tuple([unit for unit in units if unit[0] != title])
