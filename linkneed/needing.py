"""The own need of a settled graph."""

from linkneed.lives import crowds_of


def own_need(graph):
    """The greatest crowd of the graph's spots, the one behind the giving among them."""
    return max([graph[1]] + [max(crowds) for crowds in crowds_of(graph)])


def fullest_spot(graph):
    """The first spot whose crowd is the own need."""
    need = own_need(graph)
    for block, crowds in enumerate(crowds_of(graph)):
        if need in crowds:
            return (block, crowds.index(need))
    return (len(graph[2]), 0)
