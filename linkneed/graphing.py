"""Loose graphs of functions."""

from linkneed.bodyjudging import kinds_of_body
from linkneed.placing import function_number, places_of_body
from linkneed.structures import case_numbers_in, structures_in, width_of


def graph_of(unit, title):
    """The loose graph of the unit's function of this title."""
    number = function_number(unit, title)
    drawing = Drawing(unit, number)
    drawing.draw(unit[3][number])
    blocks = [(takes, tuple(steps), ending) for takes, steps, ending in drawing.blocks]
    return (title, drawing.many_given, tuple(blocks))


class Drawing:
    """The blocks of one function as they are begun; names is always a dict of the marks of the titles seen."""

    def __init__(self, unit, number):
        self.structures = structures_in(unit)
        self.case_numbers = case_numbers_in(unit)
        self.kinds = kinds_of_body(unit, number)
        self.places = {path: at for at, path in enumerate(places_of_body(unit, number))}
        self.path = (3, number, 3)
        self.many_given = width_of(self.structures[unit[3][number][2]])
        self.many_marks = 0
        self.blocks = []

    def draw(self, function):
        """Draws the whole function."""
        names = {}
        for title, kind in function[1]:
            names[title] = self._new_marks(width_of(self.structures[kind]))
        self._begin()
        self.blocks[0][0] = tuple(range(self.many_marks))
        self._step((), "beat", (), 0)
        if self._body(function[3], self.path, names):
            self._end(self._current(), ("give", tuple([self._number(0) for _ in range(self.many_given)])))

    def _new_marks(self, many):
        self.many_marks += many
        return tuple(range(self.many_marks - many, self.many_marks))

    def _begin(self):
        self.blocks.append([(), [], None])
        return self._current()

    def _current(self):
        return len(self.blocks) - 1

    def _end(self, block, ending):
        self.blocks[block][2] = ending

    def _step(self, makes, verb, reads, note):
        self.blocks[-1][1].append((makes, verb, reads, note))

    def _number(self, word):
        makes = self._new_marks(1)
        self._step(makes, "number", (), word)
        return makes[0]

    def _copies(self, marks):
        makes = self._new_marks(len(marks))
        self._copies_into(makes, marks)
        return makes

    def _copies_into(self, makes, marks):
        for made, mark in zip(makes, marks):
            self._step((made,), "copy", (mark,), 0)

    def _body(self, body, path, names):
        # Whether the body comes to its end; so for statements below.
        here = dict(names)
        for at, statement in enumerate(body):
            if not self._statement(statement, path + (at,), here):
                return False
        return True

    def _statement(self, statement, path, names):
        head = statement[0]
        if head == "if":
            return self._if(statement, path, names)
        if head == "loop":
            return self._loop(statement, path, names)
        if head == "when":
            return self._when(statement, path, names)
        if head == "let":
            names[statement[1]] = self._copies(self._expression(statement[2], path + (2,), names))
        elif head == "set":
            self._copies_into(names[statement[1]], self._expression(statement[2], path + (2,), names))
        else:
            marks = self._expression(statement[1], path + (1,), names)
            if head == "give":
                self._end(self._current(), ("give", marks))
                return False
            self._step((), "tell", marks, 0)
        return True

    def _if(self, statement, path, names):
        mark = self._expression(statement[1], path + (1,), names)[0]
        deciding = self._current()
        ends = []
        yes = self._begin()
        if self._body(statement[2], path + (2,), names):
            ends.append(self._current())
        no = self._begin()
        if self._body(statement[3], path + (3,), names):
            ends.append(self._current())
        self._end(deciding, ("by", mark, yes, no))
        return self._close(ends)

    def _close(self, ends):
        if len(ends) == 0:
            return False
        block = self._begin()
        for end in ends:
            self._end(end, ("to", block, ()))
        return True

    def _loop(self, statement, path, names):
        former = self._current()
        beaten = self._begin()
        self._end(former, ("to", beaten, ()))
        self._step((), "beat", (), 0)
        mark = self._expression(statement[1], path + (1,), names)[0]
        yes = self._begin()
        if self._body(statement[2], path + (2,), names):
            self._end(self._current(), ("to", beaten, ()))
        no = self._begin()
        self._end(beaten, ("by", mark, yes, no))
        return True

    def _when(self, statement, path, names):
        marks = self._expression(statement[1], path + (1,), names)
        cases = self.kinds[path + (1,)]
        last = len(cases) - 1
        if last == 0:
            return self._arm(statement, path, 0, marks, names)
        ends = []
        for at in range(last):
            test = self._new_test(marks[0], at)
            deciding = self._current()
            yes = self._begin()
            if self._arm(statement, path, at, marks[1:], names):
                ends.append(self._current())
            no = self._begin()
            self._end(deciding, ("by", test, yes, no))
        if self._arm(statement, path, last, marks[1:], names):
            ends.append(self._current())
        return self._close(ends)

    def _new_test(self, tag, word):
        number = self._number(word)
        makes = self._new_marks(1)
        self._step(makes, "same", (tag, number), 0)
        return makes[0]

    def _arm(self, statement, path, at, marks, names):
        titles, body = statement[2][at]
        inside = dict(names)
        start = 0
        for title, field in zip(titles, self.kinds[path + (1,)][at]):
            width = width_of(field)
            inside[title] = self._copies(marks[start:start + width])
            start += width
        return self._body(body, path + (2, at, 1), inside)

    def _expression(self, expression, path, names):
        # The marks to which the expression comes.
        head = expression[0]
        if head == "number":
            return (self._number(expression[1]),)
        if head == "name":
            return names[expression[1]]
        if head == "call":
            return self._call(expression, path, names)
        if head == "case":
            return self._case(expression, path, names)
        reads = self._expression(expression[1], path + (1,), names)
        reads = reads + self._expression(expression[2], path + (2,), names)
        makes = self._new_marks(1)
        self._step(makes, head, reads, self.places.get(path, 0))
        return makes

    def _things(self, things, path, names):
        marks = ()
        for at, thing in enumerate(things):
            marks = marks + self._expression(thing, path + (at,), names)
        return marks

    def _call(self, expression, path, names):
        reads = self._things(expression[2], path + (2,), names)
        makes = self._new_marks(width_of(self.kinds[path]))
        self._step(makes, "call", reads, (expression[1], self.places[path]))
        return makes

    def _case(self, expression, path, names):
        structure = self.kinds[path]
        if len(structure) == 1:
            return self._things(expression[3], path + (3,), names)
        tag = self._number(self.case_numbers[expression[1]][expression[2]])
        marks = (tag,) + self._things(expression[3], path + (3,), names)
        return marks + tuple([self._number(0) for _ in range(width_of(structure) - len(marks))])
