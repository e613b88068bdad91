"""Units as texts."""

from linkneed.errors import NotUsable
from linkneed.unitforms import is_unit


def unit_text(unit):
    """The text of a unit, lines with a newline between two."""
    if not is_unit(unit):
        raise NotUsable("unit", -1)
    title, shapes, uses, functions = unit
    lines = [_line("unit", title)]
    for shape in shapes:
        lines.extend(_shape_lines(shape))
    for used, takes, gives in uses:
        lines.append(_line("use", used, *takes, "gives", gives))
    for function in functions:
        lines.extend(_function_lines(function))
    return "\n".join(lines)


def _line(*words):
    return " ".join(words)


def _shape_lines(shape):
    lines = [_line("shape", shape[0])]
    for case, fields in shape[1]:
        lines.append(_line("case", case, *fields))
    lines.append("end")
    return lines


def _function_lines(function):
    title, params, gives, body = function
    lines = [_line("function", title, "gives", gives)]
    for param, kind in params:
        lines.append(_line("take", param, kind))
    lines.extend(_body_lines(body))
    lines.append("end")
    return lines


def _body_lines(body):
    lines = []
    for statement in body:
        lines.extend(_statement_lines(statement))
    return lines


def _statement_lines(statement):
    head = statement[0]
    if head in ("let", "set"):
        return [_line(head, statement[1], _expression_text(statement[2]))]
    lines = [_line(head, _expression_text(statement[1]))]
    if head in ("tell", "give"):
        return lines
    if head == "when":
        for titles, body in statement[2]:
            lines.append(_line("case", *titles))
            lines.extend(_body_lines(body))
    else:
        lines.extend(_body_lines(statement[2]))
    if head == "if":
        lines.append("else")
        lines.extend(_body_lines(statement[3]))
    lines.append("end")
    return lines


def _expression_text(expression):
    head = expression[0]
    if head == "number":
        return str(expression[1])
    if head == "name":
        return expression[1]
    if head == "call":
        words = [head, expression[1]] + [_expression_text(thing) for thing in expression[2]]
    elif head == "case":
        words = [head, expression[1], expression[2]] + [_expression_text(thing) for thing in expression[3]]
    else:
        words = [head, _expression_text(expression[1]), _expression_text(expression[2])]
    return "(" + " ".join(words) + ")"
