"""Bound units written as one, and split up into one for each function."""

from linkneed.errors import NotUsable
from linkneed.kinds import is_title


def as_one(units, name):
    """The unit with this title that has all shapes, titled anew, and all functions of the units."""
    if not is_title(name):
        raise NotUsable("name", -1)
    shapes = []
    functions = []
    for unit in units:
        kinds = {"word": "word"}
        for title, cases in unit[1]:
            renamed = tuple([(case, _renamed_kinds(fields, kinds)) for case, fields in cases])
            kinds[title] = "s" + str(len(shapes))
            shapes.append((kinds[title], renamed))
        functions.extend([_renamed_function(function, kinds) for function in unit[3]])
    return (name, tuple(shapes), (), tuple(functions))


def _renamed_kinds(fields, kinds):
    return tuple([kinds[kind] for kind in fields])


def _renamed_function(function, kinds):
    title, params, gives, body = function
    renamed = tuple([(param, kinds[kind]) for param, kind in params])
    return (title, renamed, kinds[gives], _renamed_body(body, kinds))


def _renamed_body(body, kinds):
    return tuple([_renamed_statement(statement, kinds) for statement in body])


def _renamed_statement(statement, kinds):
    head = statement[0]
    if head in ("let", "set"):
        return (head, statement[1], _renamed_expression(statement[2], kinds))
    expression = _renamed_expression(statement[1], kinds)
    if head == "when":
        return (head, expression, tuple([(titles, _renamed_body(body, kinds)) for titles, body in statement[2]]))
    return (head, expression) + tuple([_renamed_body(body, kinds) for body in statement[2:]])


def _renamed_expression(expression, kinds):
    head = expression[0]
    if head in ("number", "name"):
        return expression
    if head == "call":
        return (head, expression[1], _renamed_expressions(expression[2], kinds))
    if head == "case":
        return (head, kinds[expression[1]], expression[2], _renamed_expressions(expression[3], kinds))
    return (head,) + _renamed_expressions(expression[1:], kinds)


def _renamed_expressions(expressions, kinds):
    return tuple([_renamed_expression(expression, kinds) for expression in expressions])


def split_up(units):
    """A unit for each function, the others of its unit being uses."""
    parts = []
    for _, shapes, uses, functions in units:
        for function in functions:
            others = tuple([_use_of(other) for other in functions if other[0] != function[0]])
            parts.append(("u" + str(len(parts)), shapes, uses + others, (function,)))
    return tuple(parts)


def _use_of(function):
    title, params, gives, _ = function
    return (title, tuple([kind for _, kind in params]), gives)
