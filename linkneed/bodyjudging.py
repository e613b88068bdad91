"""Whether the titles and kinds of bodies hold together, and which kind each expression has."""

from linkneed.errors import Unfit
from linkneed.structures import case_numbers_in, signatures_in, structures_in


def kinds_of_body(unit, number):
    """A dict that has, by path, the structure of each expression of the body of this function of the unit.

    Raises Unfit for the first thing in the body that does not hold; all outside of bodies has to be fit.
    """
    structures = structures_in(unit)
    _, params, gives, body = unit[3][number]
    judge = BodyJudge(unit, structures[gives])
    judge.judge_body(body, (3, number, 3), {title: structures[kind] for title, kind in params})
    return judge.kinds


class BodyJudge:
    """Goes through one body; seen is always a dict of the titles seen, with their structures."""

    def __init__(self, unit, gives):
        self.structures = structures_in(unit)
        self.signatures = signatures_in(unit)
        self.case_numbers = case_numbers_in(unit)
        self.gives = gives
        self.kinds = {}

    def judge_body(self, body, path, seen):
        """Judges the statements of a body; what it names is not seen behind it."""
        here = dict(seen)
        for at, statement in enumerate(body):
            self._judge_statement(statement, path + (at,), here)

    def _judge_statement(self, statement, path, seen):
        head = statement[0]
        if head in ("let", "set"):
            self._judge_binding(statement, path, seen)
        elif head == "when":
            self._judge_when(statement, path, seen)
        elif head == "give":
            self._judge_agreeing(statement[1], path + (1,), seen, self.gives)
        else:
            self._judge_agreeing(statement[1], path + (1,), seen, "word")
            for at in range(2, len(statement)):
                self.judge_body(statement[at], path + (at,), seen)

    def _judge_binding(self, statement, path, seen):
        head, title, expression = statement
        structure = self._judge_expression(expression, path + (2,), seen)
        if head == "let":
            if title in seen:
                raise Unfit("twice", path)
            seen[title] = structure
        elif title not in seen:
            raise Unfit("unknown", path)
        elif seen[title] != structure:
            raise Unfit("kind", path + (2,))

    def _judge_when(self, statement, path, seen):
        _, expression, arms = statement
        structure = self._judge_expression(expression, path + (1,), seen)
        if structure == "word":
            raise Unfit("kind", path + (1,))
        if len(arms) != len(structure):
            raise Unfit("many", path)
        for at, (titles, body) in enumerate(arms):
            arm_path = path + (2, at)
            if len(titles) != len(structure[at]):
                raise Unfit("many", arm_path)
            if any([title in seen or titles.count(title) > 1 for title in titles]):
                raise Unfit("twice", arm_path)
            inside = dict(seen)
            inside.update(dict(zip(titles, structure[at])))
            self.judge_body(body, arm_path + (1,), inside)

    def _judge_agreeing(self, expression, path, seen, structure):
        if self._judge_expression(expression, path, seen) != structure:
            raise Unfit("kind", path)

    def _judge_expression(self, expression, path, seen):
        head = expression[0]
        structure = "word"
        if head == "name":
            if expression[1] not in seen:
                raise Unfit("unknown", path)
            structure = seen[expression[1]]
        elif head == "call":
            structure = self._judge_call(expression, path, seen)
        elif head == "case":
            structure = self._judge_case(expression, path, seen)
        elif head != "number":
            self._judge_agreeing(expression[1], path + (1,), seen, "word")
            self._judge_agreeing(expression[2], path + (2,), seen, "word")
        self.kinds[path] = structure
        return structure

    def _judge_call(self, expression, path, seen):
        _, title, things = expression
        if title not in self.signatures:
            raise Unfit("unknown", path)
        takes, gives = self.signatures[title]
        self._judge_things(things, path, 2, seen, takes)
        return gives

    def _judge_case(self, expression, path, seen):
        _, shape, case, things = expression
        if shape not in self.case_numbers or case not in self.case_numbers[shape]:
            raise Unfit("unknown", path)
        structure = self.structures[shape]
        self._judge_things(things, path, 3, seen, structure[self.case_numbers[shape][case]])
        return structure

    def _judge_things(self, things, path, index, seen, structures):
        if len(things) != len(structures):
            raise Unfit("many", path)
        for at, thing in enumerate(things):
            self._judge_agreeing(thing, path + (index, at), seen, structures[at])
