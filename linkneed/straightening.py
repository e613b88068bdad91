"""Straight deeds and join deeds: choices that are known, and blocks that follow only one other."""

from linkneed.graphparts import number_words, renamed_graph
from linkneed.orders import all_leaders, forward_order


def straightened(graph):
    """The graph behind all straight deeds and then all join deeds, the least block first."""
    return straighten_pass(graph)[0]


def straighten_pass(graph):
    """The pair of the straightened graph and the deeds that make it."""
    told = []
    blocks = straight_blocks(graph)
    while blocks:
        told.append(("straight", blocks[0]))
        graph = made_straight(graph, blocks[0])
        blocks = straight_blocks(graph)
    blocks = join_blocks(graph)
    while blocks:
        told.append(("join", blocks[0]))
        graph = joined(graph, blocks[0])
        blocks = join_blocks(graph)
    return (graph, tuple(told))


def straight_blocks(graph):
    """The list of the blocks whose straight deed is due, ascending."""
    words = number_words(graph)
    return [number for number, block in enumerate(graph[2]) if block[2][0] == "by" and block[2][1] in words]


def made_straight(graph, block):
    """The graph behind the straight deed of the block."""
    takes, steps, ending = graph[2][block]
    chosen = ending[2]
    if number_words(graph)[ending[1]] == 0:
        chosen = ending[3]
    blocks = list(graph[2])
    blocks[block] = (takes, steps, ("to", chosen, ()))
    changed = (graph[0], graph[1], tuple(blocks))
    return with_blocks(changed, sorted(forward_order(changed)))


def with_blocks(graph, kept):
    """The graph with only the blocks of an ascending list, counted anew."""
    numbers = {block: at for at, block in enumerate(kept)}
    blocks = []
    for block in kept:
        takes, steps, ending = graph[2][block]
        blocks.append((takes, steps, _recounted(ending, numbers)))
    return (graph[0], graph[1], tuple(blocks))


def _recounted(ending, numbers):
    if ending[0] == "to":
        return ("to", numbers[ending[1]], ending[2])
    if ending[0] == "by":
        return ("by", ending[1], numbers[ending[2]], numbers[ending[3]])
    return ending


def join_blocks(graph):
    """The list of the blocks whose join deed is due, ascending."""
    coming = all_leaders(graph)
    return [number for number, block in enumerate(graph[2]) if block[2][0] == "to" and len(coming[block[2][1]]) == 1]


def joined(graph, block):
    """The graph behind the join deed of the block."""
    takes, steps, ending = graph[2][block]
    follower = ending[1]
    blocks = list(graph[2])
    blocks[block] = (takes, steps + graph[2][follower][1], graph[2][follower][2])
    names = dict(zip(graph[2][follower][0], ending[2]))
    renamed = renamed_graph((graph[0], graph[1], tuple(blocks)), names)
    kept = [number for number in range(len(blocks)) if number != follower]
    return with_blocks(renamed, kept)
