"""Ahead deeds out of loops: steps that come to the same in each round."""

from linkneed.graphparts import is_safe, makings_of, number_words
from linkneed.orders import all_leaders, dominator_tables, dominators


def loops_of(graph):
    """The set of the pairs (head, set of blocks), one for each head."""
    tables = dominator_tables(graph)
    coming = all_leaders(graph)
    tails = {}
    for number, block in enumerate(graph[2]):
        if block[2][0] == "to" and block[2][1] in tables[number]:
            tails.setdefault(block[2][1], []).append(number)
    return tuple([(head, _loop_blocks(coming, head, tails[head])) for head in sorted(tails)])


def _loop_blocks(coming, head, tails):
    # The head is met already, so that no way back leads through it.
    met = {head: True}
    pending = list(tails)
    while pending:
        block = pending.pop()
        if block not in met:
            met[block] = True
            pending.extend(coming[block])
    return tuple(sorted(met))


def lifted(graph):
    """The graph behind all ahead deeds that lead out of a loop."""
    return lift_pass(graph)[0]


def lift_pass(graph):
    """The pair of the lifted graph and the deeds that make it."""
    lifting = Lifting(graph)
    while lifting.lift_one():
        pass
    return (lifting.graph_behind(), tuple(lifting.told))


class Lifting:
    """A graph in which ahead deeds are done one by one; they change no block but its steps."""

    def __init__(self, graph):
        self.graph = graph
        self.nearest = dominators(graph)
        self.tables = dominator_tables(graph)
        self.loops = loops_of(graph)
        self.known_words = number_words(graph)
        self.rows = [list(block[1]) for block in graph[2]]
        self.homes = {mark: place[0] for mark, place in makings_of(graph).items()}
        self.told = []

    def lift_one(self):
        """Does the first deed that is due; whether there is one."""
        for head, blocks in self.loops:
            outer = self.nearest[head]
            for block in blocks:
                index = self._first_due(block, outer)
                if index is not None:
                    self._lift(block, index, outer)
                    return True
        return False

    def _first_due(self, block, outer):
        above = self.tables[outer]
        for index, step in enumerate(self.rows[block]):
            if is_safe(step, self.known_words) and all([self.homes[mark] in above for mark in step[2]]):
                return index
        return None

    def _lift(self, block, index, outer):
        step = self.rows[block].pop(index)
        self.rows[outer].append(step)
        self.homes[step[0][0]] = outer
        self.told.append(("ahead", step[0][0], outer))

    def graph_behind(self):
        """The graph as it stands now."""
        blocks = []
        for number, block in enumerate(self.graph[2]):
            blocks.append((block[0], tuple(self.rows[number]), block[2]))
        return (self.graph[0], self.graph[1], tuple(blocks))
