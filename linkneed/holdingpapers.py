"""Holdings: the registers of what is alive at each spot of a program."""

from linkneed.basing import bases_of
from linkneed.lives import alive_spots
from linkneed.sheets import sheets_of
from linkneed.standing import stands_of


def holding_of(graphs):
    """The set of the pairs (title, spots) of main and of each function that it reaches, by bases and stands."""
    graph_by_title = {graph[0]: graph for graph in graphs}
    return tuple([(title, _held_spots(graph_by_title[title], base)) for title, base in bases_of(sheets_of(graphs))])


def _held_spots(graph, base):
    spots = []
    for alive, stands in zip(alive_spots(graph), stands_of(graph)):
        spots.append(tuple([_held(marks, stand, base) for marks, stand in zip(alive, stands)]))
    return tuple(spots) + ((tuple(range(base, base + graph[1])),),)


def _held(marks, stand, base):
    return tuple([base + stand.index(mark) for mark in marks])
