"""Bound units as objects."""

from linkneed.binding import lets_units
from linkneed.counting import entries_of
from linkneed.errors import Missing, NotUsable
from linkneed.judging import is_fit
from linkneed.treeruns import run_units
from linkneed.uniting import as_one, split_up
from linkneed.unitreadings import read_unit
from linkneed.unittexts import unit_text


class House:
    """Bound units; it never changes."""

    def __init__(self, *units):
        lets_units(units)
        self.units_kept = units

    @property
    def units_now(self):
        """The tuple of the units."""
        return self.units_kept

    @property
    def functions_now(self):
        """The set of the titles of the functions."""
        return tuple(sorted([function[0] for unit in self.units_kept for function in unit[3]]))

    @classmethod
    def of_texts(cls, *texts):
        """The House of the units whose texts these are."""
        units = [read_unit(text) for text in texts]
        return cls(*units)

    def __contains__(self, thing):
        return any([function[0] == thing for unit in self.units_kept for function in unit[3]])

    def __len__(self):
        return len(self.units_kept)

    def __iter__(self):
        return iter(self.units_kept)

    def __eq__(self, other):
        return isinstance(other, House) and self.units_kept == other.units_kept

    def run(self, args, most):
        """The outcome of a run of the units."""
        return run_units(self.units_kept, args, most)

    def entered(self, args, *, most):
        """How often each function is entered in such a run."""
        return entries_of(self.units_kept, args, most)

    def unit_of(self, name):
        """The unit that has the function of this title."""
        for unit in self.units_kept:
            if any([function[0] == name for function in unit[3]]):
                return unit
        raise Missing(name)

    def texts(self):
        """The texts of the units."""
        return tuple([unit_text(unit) for unit in self.units_kept])

    def put(self, one):
        """The House with a fit unit in place of the one of its title, else behind all."""
        if not is_fit(one):
            raise NotUsable("one", -1)
        titles = [unit[0] for unit in self.units_kept]
        units = list(self.units_kept)
        if one[0] in titles:
            units[titles.index(one[0])] = one
        else:
            units.append(one)
        return House(*units)

    def without(self, name):
        """The House without the unit of this title."""
        units = [unit for unit in self.units_kept if unit[0] != name]
        if len(units) == len(self.units_kept):
            raise Missing(name)
        return House(*units)

    def united(self, name):
        """The units as one of this title."""
        return United(name, *self.units_kept)

    def apart(self):
        """The House with a unit for each function."""
        units = split_up(self.units_kept)
        return House(*units)


class United(House):
    """Bound units written as one; it never changes."""

    def __init__(self, name, *units):
        lets_units(units)
        super().__init__(as_one(units, name))
        self.former_kept = units

    @property
    def former_now(self):
        """The tuple of the former units."""
        return self.former_kept
