"""Events as lines."""

from linkneed.errors import NotUsable
from linkneed.liveevents import is_event
from linkneed.unittexts import unit_text


def event_line(event):
    """The line of an event."""
    if not is_event(event):
        raise NotUsable("event", -1)
    word, thing = event
    if word == "put":
        return "put " + unit_text(thing).replace("\n", "; ")
    if word == "passes":
        return " ".join(["passes"] + list(thing))
    return f"{word} {thing}"
