"""Linked objects as objects."""

from linkneed.bundling import bundle
from linkneed.compiling import compile_unit
from linkneed.errors import Missing
from linkneed.linking import link
from linkneed.loading import load
from linkneed.rowruns import run_linked


class Linked:
    """An object linked for a number of registers; it never changes."""

    def __init__(self, one, registers):
        self.laid_kept = link(one, registers)
        self.object_kept = one

    @property
    def program_laid(self):
        """What link gave."""
        return self.laid_kept

    @property
    def registers_needed(self):
        """The need."""
        return self.laid_kept[0]

    @property
    def titles_laid(self):
        """The set of the titles of the functions that are laid."""
        return tuple([title for title, _, _ in self.laid_kept[3]])

    @classmethod
    def of_units(cls, *units, registers=16, names=()):
        """The Linked of at least one fit unit, each compiled, all bundled."""
        objects = tuple([compile_unit(unit, names) for unit in units])
        return cls(bundle(objects), registers)

    def __contains__(self, thing):
        return any([title == thing for title, _, _ in self.laid_kept[3]])

    def __eq__(self, other):
        return isinstance(other, Linked) and self.laid_kept == other.laid_kept

    def run(self, args, most):
        """The outcome of the linked rows."""
        return run_linked(self.laid_kept, args, most)

    def words(self):
        """The words of the image."""
        return load(self.laid_kept)[0]

    def rows_of(self, name):
        """The rows of the function of this title."""
        return self._laid_function(name)[2]

    def base_of(self, name):
        """The base of the function of this title."""
        return self._laid_function(name)[1]

    def within(self, registers):
        """Another Linked of the object."""
        return Linked(self.object_kept, registers)

    def _laid_function(self, name):
        for function in self.laid_kept[3]:
            if function[0] == name:
                return function
        raise Missing(name)
