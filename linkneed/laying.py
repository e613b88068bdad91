"""Pieces laid at their bases: rows in which nothing is open."""

from linkneed.rowkinds import cells_of
from linkneed.transferring import transfer_rows


def laid(piece, bases, rings):
    """The rows of the machine for a piece, by the bases of it and of all that it calls, and by the rings."""
    base_of = dict(bases)
    parts = []
    for block in piece[4]:
        rows = []
        for row in block:
            if row[0] == "call":
                rows.extend(_call_rows(row, piece[0], base_of, rings))
            else:
                rows.append(_raised(row, base_of[piece[0]]))
        parts.append(rows)
    starts = [0]
    for rows in parts:
        starts.append(starts[-1] + len(rows))
    return tuple([_aimed(row, starts) for rows in parts for row in rows])


def _raised(row, base):
    # The registers of a row stand together behind its verb, ahead of all else.
    many = len(cells_of(row))
    return row[:1] + tuple([base + cell for cell in row[1:1 + many]]) + row[1 + many:]


def _aimed(row, starts):
    if row[0] in ("jump", "nought"):
        return row[:-1] + (starts[row[-1]],)
    return row


def _call_rows(row, caller, base_of, rings):
    _, called, number, held, handed, many = row
    base = base_of[caller]
    callee = base_of[called]
    keeping = [(base + place, base + cell) for place, cell in enumerate(held)]
    handing = [(callee + place, base + cell) for place, cell in enumerate(handed)]
    coming = transfer_rows(tuple([(base + len(held) + place, callee + place) for place in range(many)]))
    call = ("call", called, number)
    if not any([caller in ring and called in ring for ring in rings]):
        return transfer_rows(tuple(sorted(keeping + handing))) + (call,) + coming
    kept = tuple([("keep", cell) for _, cell in keeping])
    fetched = tuple([("fetch", place) for place, _ in keeping[::-1]])
    return kept + transfer_rows(tuple(handing)) + (call,) + coming + fetched
