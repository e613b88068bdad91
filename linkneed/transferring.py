"""Transfers between registers, all at once, and the rows that do them."""

from linkneed.errors import NotUsable
from linkneed.kinds import is_number


def is_transfers(thing):
    """Whether any value is a set of pairs (to, from) of registers, no two with one to."""
    if not isinstance(thing, tuple) or not all([_is_pair(pair) for pair in thing]):
        return False
    return all([one[0] < other[0] for one, other in zip(thing, thing[1:])])


def _is_pair(thing):
    return isinstance(thing, tuple) and len(thing) == 2 and is_number(thing[0]) and is_number(thing[1])


def transfer_rows(pairs):
    """The fewest move and swap rows that do the transfers."""
    pending = _unlike(pairs)
    rows = []
    while pending:
        froms = list(pending.values())
        free = [to for to in pending if to not in froms]
        if free:
            to = min(free)
            rows.append(("move", to, pending.pop(to)))
        else:
            rows.append(_swapped(pending))
    return tuple(rows)


def _swapped(pending):
    # Nothing but closed rings is pending here, so that just one pair has the least to as its from.
    to = min(pending)
    other = pending.pop(to)
    for one in list(pending):
        if pending[one] == to:
            pending[one] = other
            if one == other:
                pending.pop(one)
    return ("swap", to, other)


def unlike_pairs(pairs):
    """How many pairs are of two unlike registers."""
    return len(_unlike(pairs))


def closed_rings(pairs):
    """How many closed rings of at least two unlike pairs there are."""
    froms = _unlike(pairs)
    met = {}
    many = 0
    for start in froms:
        at = start
        while at in froms and at not in met:
            met[at] = start
            at = froms[at]
        # The ring is new if this walk itself came upon the register ahead.
        if met.get(at) == start:
            many += 1
    return many


def _unlike(pairs):
    # A dict of the from of each to.
    if not is_transfers(pairs):
        raise NotUsable("pairs", -1)
    return {to: other for to, other in pairs if to != other}


def moved_by(rows, words):
    """What the registers have behind the rows if they have the words ahead."""
    if not isinstance(rows, tuple) or not all([_is_moving_row(row, len(words)) for row in rows]):
        raise NotUsable("rows", -1)
    cells = list(words)
    for verb, one, other in rows:
        if verb == "move":
            cells[one] = cells[other]
        else:
            cells[one], cells[other] = cells[other], cells[one]
    return tuple(cells)


def _is_moving_row(thing, many):
    if not isinstance(thing, tuple) or len(thing) != 3 or thing[0] not in ("move", "swap"):
        return False
    return all([is_number(cell) and cell < many for cell in thing[1:]])
