"""Which functions reach which, by their sheets, and rings of those that reach one another."""

from linkneed.errors import Missing, NotUsable
from linkneed.sheets import is_sheets


def reached_from(sheets, name):
    """The set of the titles that the function titled name reaches."""
    reached = reached_tables(sheets)
    _check_title(name, reached)
    return tuple(sorted(reached[name]))


def rings_of(sheets):
    """The set of all rings, each the set of its titles."""
    reached = reached_tables(sheets)
    rings = []
    for title in sorted(reached):
        ring = tuple([other for other in sorted(reached[title]) if title in reached.get(other, ())])
        # Each ring is told once, by the least of its titles.
        if len(ring) > 0 and ring[0] == title:
            rings.append(ring)
    return tuple(rings)


def is_ring_call(sheets, caller, called):
    """Whether a call of the function called, standing in caller, is a ring call."""
    reached = reached_tables(sheets)
    _check_title(caller, reached)
    _check_title(called, reached)
    return called == caller or caller in reached[called]


def reached_tables(sheets):
    """A dict that has for the title of each sheet a dict with the titles that it reaches as keys."""
    if not is_sheets(sheets):
        raise NotUsable("sheets", -1)
    called = {title: [name for name, _ in calls] for title, _, calls in sheets}
    return {title: _reached(called, title) for title in called}


def _reached(called, title):
    reached = {}
    pending = list(called[title])
    while pending:
        one = pending.pop()
        if one not in reached:
            reached[one] = True
            pending.extend(called.get(one, ()))
    return reached


def _check_title(title, titles):
    if not isinstance(title, str) or title not in titles:
        raise Missing(title)
