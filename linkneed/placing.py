"""Where the places and the expressions of a function's body stand."""

from linkneed.bodyjudging import kinds_of_body
from linkneed.errors import Missing

PLACED = ("div", "rem", "call")


def places_in(unit, title):
    """The paths of the div, rem and call expressions of the function's body, in order."""
    return places_of_body(unit, function_number(unit, title))


def kinds_in(unit, title):
    """The pairs (path, structure) of all expressions of the function's body, in order."""
    kinds = kinds_of_body(unit, function_number(unit, title))
    # Paths in their order as tuples are in the order of the expressions.
    return tuple([(path, kinds[path]) for path in sorted(kinds)])


def function_number(unit, title):
    """The index of the unit's function of this title, which is any value."""
    for number, function in enumerate(unit[3]):
        if function[0] == title:
            return number
    raise Missing(title)


def places_of_body(unit, number):
    """What places_in tells, for the function with this index."""
    found = expressions_of_body(unit[3][number][3], (3, number, 3))
    return tuple([path for path, expression in found if expression[0] in PLACED])


def expressions_of_body(body, path):
    """The list of the pairs (path, expression) of all expressions of a body, in order."""
    found = []
    for at, statement in enumerate(body):
        found.extend(_expressions_of_statement(statement, path + (at,)))
    return found


def _expressions_of_statement(statement, path):
    if statement[0] in ("let", "set"):
        return _expressions_within(statement[2], path + (2,))
    found = _expressions_within(statement[1], path + (1,))
    if statement[0] == "when":
        for at, arm in enumerate(statement[2]):
            found.extend(expressions_of_body(arm[1], path + (2, at, 1)))
    else:
        for at in range(2, len(statement)):
            found.extend(expressions_of_body(statement[at], path + (at,)))
    return found


def _expressions_within(expression, path):
    found = [(path, expression)]
    if expression[0] == "call":
        for at, thing in enumerate(expression[2]):
            found.extend(_expressions_within(thing, path + (2, at)))
    elif expression[0] == "case":
        for at, thing in enumerate(expression[3]):
            found.extend(_expressions_within(thing, path + (3, at)))
    elif expression[0] not in ("number", "name"):
        found.extend(_expressions_within(expression[1], path + (1,)))
        found.extend(_expressions_within(expression[2], path + (2,)))
    return found
