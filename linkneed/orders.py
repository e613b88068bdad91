"""How the blocks of a graph follow and dominate one another."""

from linkneed.errors import NotUsable
from linkneed.graphparts import named_blocks
from linkneed.kinds import is_number


def is_block(graph, block):
    """Whether any value is the number of a block of the graph."""
    return is_number(block) and block < len(graph[2])


def followers(graph, block):
    """The set of the blocks that the block's ending names."""
    if not is_block(graph, block):
        raise NotUsable("block", -1)
    return tuple(sorted(named_blocks(graph[2][block][2])))


def leaders(graph, block):
    """The set of the blocks whose endings name the block."""
    if not is_block(graph, block):
        raise NotUsable("block", -1)
    return tuple([number for number, one in enumerate(graph[2]) if block in named_blocks(one[2])])


def dominators(graph):
    """For each block its nearest strict dominator; None for block 0."""
    order = forward_order(graph)
    rank = {block: at for at, block in enumerate(order)}
    coming = all_leaders(graph)
    nearest = {0: 0}
    changed = True
    while changed:
        changed = False
        for block in order[1:]:
            known = [leader for leader in coming[block] if leader in nearest]
            common = known[0]
            for leader in known[1:]:
                common = _common_dominator(nearest, rank, common, leader)
            if nearest.get(block) != common:
                nearest[block] = common
                changed = True
    return (None,) + tuple([nearest[block] for block in range(1, len(graph[2]))])


def _common_dominator(nearest, rank, one, other):
    while one != other:
        if rank[one] > rank[other]:
            one = nearest[one]
        else:
            other = nearest[other]
    return one


def dominates(graph, one, other):
    """Whether each path from the start to block other goes through block one."""
    if not is_block(graph, one):
        raise NotUsable("one", -1)
    if not is_block(graph, other):
        raise NotUsable("other", -1)
    nearest = dominators(graph)
    block = other
    while block is not None and block != one:
        block = nearest[block]
    return block == one


def all_leaders(graph):
    """For each block the list of its leaders."""
    coming = [[] for _ in graph[2]]
    for number, block in enumerate(graph[2]):
        for target in named_blocks(block[2]):
            coming[target].append(number)
    return coming


def forward_order(graph):
    """The list of the blocks that can be reached, each one behind all that strictly dominate it."""
    behind = []
    met = {0: True}
    stack = [(0, 0)]
    while stack:
        block, at = stack.pop()
        named = named_blocks(graph[2][block][2])
        if at == len(named):
            behind.append(block)
            continue
        stack.append((block, at + 1))
        if named[at] not in met:
            met[named[at]] = True
            stack.append((named[at], 0))
    return behind[::-1]


def dominator_tables(graph):
    """For each block a dict with all blocks that dominate it, itself among them, as keys."""
    nearest = dominators(graph)
    tables = {0: {0: True}}
    for block in forward_order(graph)[1:]:
        tables[block] = dict(tables[nearest[block]])
        tables[block][block] = True
    return tables
