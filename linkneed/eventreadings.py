"""Events read from their lines."""

from linkneed.errors import InvalidText, NotUsable
from linkneed.kinds import GREATEST_SIZE, is_title
from linkneed.passes import are_passes
from linkneed.unitreadings import read_unit


def read_event(line):
    """The event whose line it is."""
    if not isinstance(line, str):
        raise NotUsable("line", -1)
    if line.startswith("put ") and "\n" not in line:
        return ("put", read_unit(line[len("put "):].replace("; ", "\n")))
    words = tuple(line.split(" "))
    if words[0] == "passes" and are_passes(words[1:]):
        return ("passes", words[1:])
    if words[0] == "drop" and len(words) == 2 and is_title(words[1]):
        return ("drop", words[1])
    for size in range(1, GREATEST_SIZE + 1):
        if words == ("registers", str(size)):
            return ("registers", size)
    raise InvalidText(0)
