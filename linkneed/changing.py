"""Needs of sheets one of which is another one."""

from linkneed.basing import need_of
from linkneed.errors import NotUsable
from linkneed.sheets import is_sheet, is_sheets


def need_with(sheets, sheet):
    """The need if the sheet stood in place of the one of its title, or besides."""
    return need_of(sheets_with(sheets, sheet))


def sheets_with(sheets, sheet):
    """The sheets with this one in place of the one of its title, or besides."""
    if not is_sheets(sheets):
        raise NotUsable("sheets", -1)
    if not is_sheet(sheet):
        raise NotUsable("sheet", -1)
    return tuple([one for one in sheets if one[0] != sheet[0]]) + (sheet,)
