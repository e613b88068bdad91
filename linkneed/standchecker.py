"""Papers that state where the alive marks stand."""

from linkneed.errors import InvalidPaper
from linkneed.kinds import is_number
from linkneed.lives import alive_spots


def lets_stands(graph, thing):
    """How many registers the table has, if at each spot just the alive marks stand, each in one register."""
    if not isinstance(thing, tuple) or len(thing) != len(graph[2]):
        raise InvalidPaper("table", -1)
    longest = graph[1]
    for block, alive in enumerate(alive_spots(graph)):
        stands = thing[block]
        if not isinstance(stands, tuple) or len(stands) != len(alive):
            raise InvalidPaper("block", block)
        for index, stand in enumerate(stands):
            _check_stand(stand, alive[index], (block, index))
            longest = max(longest, len(stand))
    return longest


def _check_stand(stand, alive, spot):
    if not _is_stand(stand):
        raise InvalidPaper("stand", spot)
    met = {}
    for place, mark in enumerate(stand):
        if mark is not None:
            if mark not in alive or mark in met:
                raise InvalidPaper("mark", spot + (place,))
            met[mark] = True
    for mark in alive:
        if mark not in met:
            raise InvalidPaper("lacking", spot + (mark,))


def _is_stand(thing):
    if not isinstance(thing, tuple) or not all([mark is None or is_number(mark) for mark in thing]):
        return False
    return len(thing) == 0 or thing[-1] is not None
