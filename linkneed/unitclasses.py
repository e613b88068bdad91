"""Units as objects."""

from linkneed.errors import Missing, NotUsable
from linkneed.judging import judge_unit
from linkneed.kinds import is_number
from linkneed.unitforms import is_function, is_unit
from linkneed.unitreadings import read_unit
from linkneed.unittexts import unit_text


class Written:
    """A unit by its form; it never changes."""

    def __init__(self, unit):
        if not is_unit(unit):
            raise NotUsable("unit", -1)
        self.unit_kept = unit
        self.functions_kept = unit[3]

    @property
    def unit_now(self):
        """The unit."""
        return self.unit_kept

    @staticmethod
    def read(text):
        """The Written of the unit whose text it is."""
        return Written(read_unit(text))

    def __contains__(self, name):
        return any([function[0] == name for function in self.functions_kept])

    def __iter__(self):
        return iter(self.functions_kept)

    def __eq__(self, other):
        return isinstance(other, Written) and self.unit_kept == other.unit_kept

    def text(self):
        """The text of the unit."""
        return unit_text(self.unit_kept)

    def functions(self):
        """The set of the titles of its functions."""
        return _titles(self.functions_kept)

    def shapes(self):
        """The set of the titles of its shapes."""
        return _titles(self.unit_kept[1])

    def uses(self):
        """The set of the titles of its uses."""
        return _titles(self.unit_kept[2])

    def judged(self):
        """How many expressions its bodies have, if it is fit."""
        return judge_unit(self.unit_kept)

    def body_of(self, name):
        """The body of the first function of this title."""
        for function in self.functions_kept:
            if function[0] == name:
                return function[3]
        raise Missing(name)

    def part_at(self, path):
        """The part of this path."""
        if not isinstance(path, tuple):
            raise NotUsable("path", -1)
        part = self.unit_kept
        for index in path:
            if not isinstance(part, tuple) or not is_number(index) or index >= len(part):
                raise NotUsable("path", -1)
            part = part[index]
        return part

    def put(self, function, *, ahead=False):
        """A Written with the function in place of the first one of its title, else behind or ahead of all."""
        return Written(_with_function(self.unit_kept, function, ahead))

    def without(self, name):
        """A Written without the functions of this title."""
        return Written(_without_function(self.unit_kept, name))


class Judged(Written):
    """A unit that is fit; it never changes."""

    def __init__(self, unit):
        super().__init__(unit)
        judge_unit(unit)

    def put(self, function, *, ahead=False):
        """A Judged with the function in place of the first one of its title, else behind or ahead of all."""
        return Judged(_with_function(self.unit_kept, function, ahead))

    def without(self, name):
        """A Judged without the functions of this title."""
        return Judged(_without_function(self.unit_kept, name))


def _titles(things):
    return tuple(sorted(list({thing[0]: True for thing in things})))


def _with_function(unit, function, ahead):
    if not is_function(function):
        raise NotUsable("function", -1)
    titles = [one[0] for one in unit[3]]
    if function[0] in titles:
        at = titles.index(function[0])
        return unit[:3] + (unit[3][:at] + (function,) + unit[3][at + 1:],)
    if ahead:
        return unit[:3] + ((function,) + unit[3],)
    return unit[:3] + (unit[3] + (function,),)


def _without_function(unit, name):
    kept = tuple([function for function in unit[3] if function[0] != name])
    if len(kept) == len(unit[3]):
        raise Missing(name)
    return unit[:3] + (kept,)
