"""Bodies of functions as rows for a run of units, one behind another.

A run has a list of values in their nested form, the last ones being worked out; a row takes its values from there:
("number", word), ("name", title), ("case", number, many) and (operation, number of the place) leave one value there,
("call", title, number of the place, many) does when the function gives; ("bind", title), ("tell",) and ("give",) take
one; ("nought", row) takes one and goes on with the row if it is 0; ("when", rows) takes one, leaves its parts and goes
on with the row of its case; ("jump", row) and ("beat",) take none, nor does ("end",), behind the body.
"""

from linkneed.placing import PLACED
from linkneed.structures import case_numbers_in


def code_of(unit, number):
    """The tuple of the rows of the body of this function of the unit."""
    coding = Coding(unit)
    coding.add_body(unit[3][number][3])
    coding.add_row("end")
    return tuple(coding.rows)


class Coding:
    """The rows of one body as they are added; places are counted as their expressions are come to."""

    def __init__(self, unit):
        self.case_numbers = case_numbers_in(unit)
        self.rows = []
        self.many_places = 0

    def add_row(self, *row):
        """Adds a row."""
        self.rows.append(row)

    def add_body(self, body):
        """Adds the rows of a body."""
        for statement in body:
            self._add_statement(statement)

    def _add_statement(self, statement):
        head = statement[0]
        if head in ("let", "set"):
            self._add_expression(statement[2])
            self.add_row("bind", statement[1])
        elif head == "if":
            self._add_if(statement)
        elif head == "loop":
            self._add_loop(statement)
        elif head == "when":
            self._add_when(statement)
        else:
            self._add_expression(statement[1])
            self.add_row(head)

    def _add_if(self, statement):
        self._add_expression(statement[1])
        deciding = self._add_gap()
        self.add_body(statement[2])
        leaving = self._add_gap()
        self.rows[deciding] = ("nought", len(self.rows))
        self.add_body(statement[3])
        self.rows[leaving] = ("jump", len(self.rows))

    def _add_loop(self, statement):
        start = len(self.rows)
        self.add_row("beat")
        self._add_expression(statement[1])
        deciding = self._add_gap()
        self.add_body(statement[2])
        self.add_row("jump", start)
        self.rows[deciding] = ("nought", len(self.rows))

    def _add_when(self, statement):
        self._add_expression(statement[1])
        deciding = self._add_gap()
        starts = []
        leaving = []
        for titles, body in statement[2]:
            starts.append(len(self.rows))
            # The last part is the first one to be taken.
            for title in titles[::-1]:
                self.add_row("bind", title)
            self.add_body(body)
            leaving.append(self._add_gap())
        self.rows[deciding] = ("when", tuple(starts))
        for gap in leaving:
            self.rows[gap] = ("jump", len(self.rows))

    def _add_gap(self):
        # A place for a row that is known only later.
        self.rows.append(None)
        return len(self.rows) - 1

    def _add_expression(self, expression):
        head = expression[0]
        place = self.many_places
        if head in PLACED:
            self.many_places += 1
        if head in ("number", "name"):
            self.add_row(head, expression[1])
        elif head == "call":
            self._add_expressions(expression[2])
            self.add_row(head, expression[1], place, len(expression[2]))
        elif head == "case":
            self._add_expressions(expression[3])
            self.add_row(head, self.case_numbers[expression[1]][expression[2]], len(expression[3]))
        else:
            self._add_expressions(expression[1:])
            self.add_row(head, place)

    def _add_expressions(self, expressions):
        for expression in expressions:
            self._add_expression(expression)
