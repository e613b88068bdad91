"""Marks that stay in one register."""

from linkneed.acrossing import calls_across
from linkneed.standing import stands_of


def homes_of(graph):
    """The set of the pairs (mark, register) of all marks that are across no call."""
    crossing = {mark: True for _, _, _, across in calls_across(graph) for mark in across}
    homes = {}
    for stands in stands_of(graph):
        for stand in stands:
            for place, mark in enumerate(stand):
                if mark is not None and mark not in crossing:
                    homes[mark] = place
    return tuple(sorted(list(homes.items())))
