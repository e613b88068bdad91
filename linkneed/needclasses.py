"""Sheets as objects."""

from linkneed.basing import bases_of, need_of
from linkneed.changing import need_with, sheets_with
from linkneed.errors import Missing, NotUsable
from linkneed.kinds import is_number
from linkneed.ringing import rings_of
from linkneed.sheets import is_sheets, sheets_of


class Needing:
    """Sheets and what they need; it never changes."""

    def __init__(self, sheets):
        if not is_sheets(sheets):
            raise NotUsable("sheets", -1)
        self.sheets_kept = tuple(sorted(sheets))

    @property
    def sheets_now(self):
        """The sheets, ascending."""
        return self.sheets_kept

    @property
    def need_now(self):
        """The need."""
        return need_of(self.sheets_kept)

    @classmethod
    def of_program(cls, graphs):
        """The Needing of the sheets of a program."""
        return cls(sheets_of(graphs))

    def __len__(self):
        return len(self.sheets_kept)

    def __iter__(self):
        return iter(self.sheets_kept)

    def __contains__(self, thing):
        return any([sheet[0] == thing for sheet in self.sheets_kept])

    def __eq__(self, other):
        return isinstance(other, Needing) and self.sheets_kept == other.sheets_kept

    def __call__(self, sheet):
        return need_with(self.sheets_kept, sheet)

    def base_of(self, name):
        """The base of the function of this title."""
        for title, base in bases_of(self.sheets_kept):
            if title == name:
                return base
        raise Missing(name)

    def bases(self, *, least=0):
        """The set of the pairs (title, base) whose base is at least this number."""
        if not is_number(least):
            raise NotUsable("least", -1)
        return tuple([pair for pair in bases_of(self.sheets_kept) if pair[1] >= least])

    def rings(self):
        """The set of all rings."""
        return rings_of(self.sheets_kept)

    def put(self, sheet):
        """The Needing with the sheet in place of the one of its title, or besides."""
        return Needing(sheets_with(self.sheets_kept, sheet))

    def without(self, name):
        """The Needing without the sheet of this title."""
        kept = tuple([sheet for sheet in self.sheets_kept if sheet[0] != name])
        if len(kept) == len(self.sheets_kept):
            raise Missing(name)
        return Needing(kept)
