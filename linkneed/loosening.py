"""Settled graphs loosened: what is handed becomes copies."""

from linkneed.graphparts import makings_of


def loosened(graph):
    """A loose graph of a settled one."""
    # Without a mark nothing is handed, so that no new one is counted on from -1.
    many = 1 + max(list(makings_of(graph)), default=-1)
    blocks = []
    for number, (takes, steps, ending) in enumerate(graph[2]):
        if number != 0:
            takes = ()
        if ending[0] == "to":
            steps = steps + _handing_steps(many, graph[2][ending[1]][0], ending[2])
            many += len(ending[2])
            ending = ("to", ending[1], ())
        blocks.append((takes, steps, ending))
    return (graph[0], graph[1], tuple(blocks))


def _handing_steps(many, takes, handed):
    # First all is read, then all is made, since what is handed may be taken there itself.
    between = range(many, many + len(handed))
    reading = [((made,), "copy", (mark,), 0) for made, mark in zip(between, handed)]
    making = [((taken,), "copy", (made,), 0) for taken, made in zip(takes, between)]
    return tuple(reading + making)
