"""Papers that state holdings."""

from linkneed.errors import InvalidPaper
from linkneed.kinds import is_number
from linkneed.lives import alive_spots
from linkneed.programcalls import program_calls
from linkneed.ringing import reached_from
from linkneed.sheets import sheets_of


def lets_holding(graphs, thing):
    """One more than the greatest register of a holding, 0 if it has none."""
    sheets = sheets_of(graphs)
    titles = tuple(sorted(list({one: True for one in ("main",) + reached_from(sheets, "main")})))
    if not _is_list(thing, titles):
        raise InvalidPaper("list", -1)
    graph_by_title = {graph[0]: graph for graph in graphs}
    alive_by_title = {title: alive_spots(graph_by_title[title]) for title in titles}
    for at, (title, blocks) in enumerate(thing):
        _check_blocks(blocks, at, alive_by_title[title], graph_by_title[title][1])
    had = {title: _registers_in(blocks) for title, blocks in thing}
    below = {title: [had[one] for one in (title,) + reached_from(sheets, title)] for title in titles}
    calls = program_calls(graphs)
    for at, (title, blocks) in enumerate(thing):
        _check_calls(calls[title], at, _cells_by_mark(alive_by_title[title], blocks), below)
    return max([1 + cell for cells in list(had.values()) for cell in cells], default=0)


def _is_list(thing, titles):
    if not isinstance(thing, tuple) or len(thing) != len(titles):
        return False
    return all([isinstance(pair, tuple) and len(pair) == 2 and pair[0] == title for pair, title in zip(thing, titles)])


def _check_blocks(blocks, at, alive, gives):
    if not isinstance(blocks, tuple) or len(blocks) != len(alive) + 1:
        raise InvalidPaper("blocks", at)
    for number, spots in enumerate(blocks):
        # How many registers each spot has.
        counts = [gives]
        if number < len(alive):
            counts = [len(marks) for marks in alive[number]]
        if not isinstance(spots, tuple) or len(spots) != len(counts):
            raise InvalidPaper("spots", (at, number))
        for index, cells in enumerate(spots):
            _check_spot(cells, counts[index], (at, number, index))


def _check_spot(cells, many, where):
    if not isinstance(cells, tuple) or len(cells) != many or not all([is_number(cell) for cell in cells]):
        raise InvalidPaper("many", where)
    if len({cell: True for cell in cells}) != many:
        raise InvalidPaper("unlike", where)


def _registers_in(blocks):
    return {cell: True for spots in blocks for cells in spots for cell in cells}


def _cells_by_mark(alive, blocks):
    # For each block, for each of its spots, a dict of the registers of the marks.
    return [[dict(zip(marks, cells)) for marks, cells in zip(spots, told)] for spots, told in zip(alive, blocks)]


def _check_calls(calls, at, cells, below):
    # below has for each title the tables of the registers of the function and of those that it reaches.
    for number, index, called, across, is_in_ring in calls:
        behind = cells[number][index + 1]
        if not is_in_ring and any([behind[mark] in table for mark in across for table in below[called]]):
            raise InvalidPaper("call", (at, number, index))
