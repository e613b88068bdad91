"""The forms of expressions, bodies and units, whatever their titles stand for."""

from linkneed.kinds import is_title, is_word
from linkneed.operations import OPERATIONS


def is_expression(thing):
    """Whether any value has the form of an expression."""
    if not isinstance(thing, tuple) or len(thing) < 2:
        return False
    head = thing[0]
    if head == "number":
        return len(thing) == 2 and is_word(thing[1])
    if head == "name":
        return len(thing) == 2 and is_title(thing[1])
    if head == "call":
        return len(thing) == 3 and is_title(thing[1]) and _are_expressions(thing[2])
    if head == "case":
        return len(thing) == 4 and is_title(thing[1]) and is_title(thing[2]) and _are_expressions(thing[3])
    return head in OPERATIONS and len(thing) == 3 and _are_expressions(thing[1:])


def _are_expressions(things):
    return isinstance(things, tuple) and all([is_expression(thing) for thing in things])


def is_body(thing):
    """Whether any value has the form of a tuple of statements, perhaps empty."""
    return isinstance(thing, tuple) and all([_is_statement(statement) for statement in thing])


def _is_statement(thing):
    if not isinstance(thing, tuple) or len(thing) < 2:
        return False
    head = thing[0]
    if head in ("let", "set"):
        return len(thing) == 3 and is_title(thing[1]) and is_expression(thing[2])
    if not is_expression(thing[1]):
        return False
    if head in ("tell", "give"):
        return len(thing) == 2
    if head == "if":
        return len(thing) == 4 and is_body(thing[2]) and is_body(thing[3])
    if head == "loop":
        return len(thing) == 3 and is_body(thing[2])
    return head == "when" and len(thing) == 3 and _are_arms(thing[2])


def _are_arms(thing):
    if not isinstance(thing, tuple) or len(thing) == 0:
        return False
    return all([_is_pair(arm) and _are_titles(arm[0]) and is_body(arm[1]) for arm in thing])


def _is_pair(thing):
    return isinstance(thing, tuple) and len(thing) == 2


def _are_titles(thing):
    return isinstance(thing, tuple) and all([is_title(title) for title in thing])


def is_unit(thing):
    """Whether any value has the form of a unit."""
    if not isinstance(thing, tuple) or len(thing) != 4 or not is_title(thing[0]):
        return False
    if not all([isinstance(part, tuple) for part in thing[1:]]):
        return False
    if not all([_is_shape(shape) for shape in thing[1]]):
        return False
    if not all([_is_use(use) for use in thing[2]]):
        return False
    return all([is_function(function) for function in thing[3]])


def is_kind(thing):
    """Whether any value is "word" or a title."""
    return is_title(thing) or thing == "word"


def _are_kinds(thing):
    return isinstance(thing, tuple) and all([is_kind(kind) for kind in thing])


def _is_shape(thing):
    if not _is_pair(thing) or not is_title(thing[0]):
        return False
    cases = thing[1]
    if not isinstance(cases, tuple) or len(cases) == 0:
        return False
    return all([_is_pair(case) and is_title(case[0]) and _are_kinds(case[1]) for case in cases])


def _is_use(thing):
    if not isinstance(thing, tuple) or len(thing) != 3:
        return False
    return is_title(thing[0]) and _are_kinds(thing[1]) and is_kind(thing[2])


def is_function(thing):
    """Whether any value has the form of a function of a unit."""
    if not isinstance(thing, tuple) or len(thing) != 4 or not is_title(thing[0]):
        return False
    return _are_params(thing[1]) and is_kind(thing[2]) and is_body(thing[3])


def _are_params(thing):
    if not isinstance(thing, tuple):
        return False
    return all([_is_pair(param) and is_title(param[0]) and is_kind(param[1]) for param in thing])
