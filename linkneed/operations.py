"""The seven operations on two words."""

from linkneed.errors import NotUsable
from linkneed.kinds import WORD_BOUND, is_word

OPERATIONS = ("add", "sub", "mul", "div", "rem", "less", "same")


def operated(operation, one, other):
    """The word that the operation gives for one and other; None for the fault "nought"."""
    if operation not in OPERATIONS:
        raise NotUsable("operation", -1)
    if not is_word(one):
        raise NotUsable("one", -1)
    if not is_word(other):
        raise NotUsable("other", -1)
    if operation in ("div", "rem"):
        return _divided(operation, one, other)
    if operation == "less":
        return int(one < other)
    if operation == "same":
        return int(one == other)
    return _reckoned(operation, one, other) % WORD_BOUND


def _divided(operation, one, other):
    if other == 0:
        return None
    if operation == "div":
        return one // other
    return one % other


def _reckoned(operation, one, other):
    if operation == "add":
        return one + other
    if operation == "sub":
        return one - other
    return one * other
