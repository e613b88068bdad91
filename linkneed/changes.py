"""What changes between two objects."""

from linkneed.basing import bases_of
from linkneed.errors import NotUsable
from linkneed.objectsheets import sheets_of_object
from linkneed.ringing import is_ring_call
from linkneed.rowkinds import is_object, open_rows_of

# The words for what _told_of has, in its order.
WORDS = ("piece", "base", "callee", "ring")


def changes_between(one, other):
    """The set of the pairs (title, why) of the functions that are not linked as they were."""
    if not is_object(one):
        raise NotUsable("one", -1)
    if not is_object(other):
        raise NotUsable("other", -1)
    former = _told_of(one)
    latter = _told_of(other)
    changes = []
    for title in sorted(list({**former, **latter})):
        why = _word_for(former.get(title), latter.get(title))
        if why is not None:
            changes.append((title, why))
    return tuple(changes)


def _told_of(one):
    # For each laid function its piece, its base, and for its calls the bases and whether they are ring calls.
    sheets = sheets_of_object(one)
    bases = dict(bases_of(sheets))
    told = {}
    for piece in one[1]:
        title = piece[0]
        if title in bases:
            called = [row[1] for row in open_rows_of(piece)]
            rings = [is_ring_call(sheets, title, name) for name in called]
            told[title] = (piece, bases[title], [bases[name] for name in called], rings)
    return told


def _word_for(former, latter):
    if latter is None:
        return "gone"
    if former is None:
        return "new"
    for word, ahead, behind in zip(WORDS, former, latter):
        if ahead != behind:
            return word
    return None
