"""Objects linked into the fewest registers."""

from linkneed.basing import bases_of, need_of
from linkneed.errors import Beyond, NotUsable
from linkneed.kinds import is_size
from linkneed.laying import laid
from linkneed.objectsheets import sheets_of_object
from linkneed.ringing import rings_of
from linkneed.rowkinds import is_object, taken_words
from linkneed.structures import width_of


def link(one, registers):
    """The need, how many words main takes and gives, and the laid functions (title, base, rows)."""
    if not is_object(one):
        raise NotUsable("one", -1)
    if not is_size(registers):
        raise NotUsable("registers", -1)
    sheets = sheets_of_object(one)
    need = need_of(sheets)
    if need > registers:
        raise Beyond(need)
    bases = bases_of(sheets)
    rings = rings_of(sheets)
    pieces = {piece[0]: piece for piece in one[1]}
    functions = tuple([(title, base, laid(pieces[title], bases, rings)) for title, base in bases])
    return (need, taken_words(pieces["main"][1]), width_of(pieces["main"][2]), functions)
