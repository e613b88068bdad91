"""The sheets of an object without uses."""

from linkneed.errors import Missing
from linkneed.rowkinds import open_rows_of


def sheets_of_object(one):
    """The sheets of the object's pieces, ascending; Missing of the least use, if it has one."""
    if len(one[0]) > 0:
        raise Missing(one[0][0][0])
    return tuple([_sheet_of_piece(piece) for piece in one[1]])


def _sheet_of_piece(piece):
    return (piece[0], piece[3], tuple([(row[1], len(row[3])) for row in open_rows_of(piece)]))
