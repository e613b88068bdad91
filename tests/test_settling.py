import unittest
from itertools import combinations

from linkneed.graphing import graph_of
from linkneed.graphkinds import is_loose, is_settled
from linkneed.placings import least_placing
from linkneed.settling import settled
from tests import oracles
from tests.samples import BEAT, DOWN, FAR, ONE, PAIR, SIX, SettledMaker, TWO
from tests.unitsamples import GraphRun, bound_units, some_args

NOWHERE = "nowhere"


class LooseMaker(SettledMaker):
    """Makes random loose graphs with few marks, each made in block 0."""

    def loose(self, many):
        endings, _ = self._wiring()
        gives = self.random.randrange(3)
        takes = tuple(self.random.sample(range(many), self.random.randrange(many + 1)))
        blocks = []
        for number, ending in enumerate(endings):
            steps = [BEAT]
            if number == 0:
                steps += [((mark,), "number", (), 9) for mark in range(many) if mark not in takes]
            steps += [self.loose_step(many) for _ in range(self.random.randrange(4))]
            if ending[0] == "to":
                ending = ("to", ending[1], ())
            elif ending[0] == "by":
                ending = ("by", self.random.randrange(many), ending[1], ending[2])
            else:
                ending = ("give", tuple(self.random.randrange(many) for _ in range(gives)))
            blocks.append((takes if number == 0 else (), tuple(steps), ending))
        order = list(range(1, len(blocks)))
        self.random.shuffle(order)
        return oracles.with_kept_blocks(("g", gives, tuple(blocks)), [0] + order)

    def loose_step(self, many):
        pick = lambda: self.random.randrange(many)
        verb = self.random.choice(("number", "copy", "copy", "add", "call", "tell"))
        if verb == "number":
            return ((pick(),), verb, (), self.random.randrange(5))
        if verb == "copy":
            return ((pick(),), verb, (pick(),), 0)
        if verb == "add":
            return ((pick(),), verb, (pick(), pick()), 0)
        if verb == "tell":
            return ((), verb, (pick(),), 0)
        return (tuple(self.random.sample(range(many), self.random.randrange(3))), verb, (pick(),), ("f", 3))


def loose_graphs(many, seed, marks, most_blocks):
    return [LooseMaker(seed * 1009 + number, most_blocks=most_blocks).loose(marks) for number in range(many)]


def ends_of(graph, mark, placed):
    """For each block the makings of the mark that may be the last one at its entry, and at its end."""
    entries = [set() for _ in graph[2]]
    ends = [set() for _ in graph[2]]
    entries[0] = {(0, -1) if mark in graph[2][0][0] else NOWHERE}
    changed = True
    while changed:
        changed = False
        for number, (_, steps, ending) in enumerate(graph[2]):
            now = {(number, -1)} if number in placed else entries[number]
            for index, step in enumerate(steps):
                if mark in step[0]:
                    now = {(number, index)}
            if now != ends[number]:
                ends[number] = set(now)
                changed = True
            for target in oracles.named(ending):
                if not now <= entries[target]:
                    entries[target] |= now
                    changed = True
    return [{(number, -1)} if number in placed else entries[number] for number in range(len(graph[2]))], ends


def readings_of(graph, mark, placed):
    """For each reading of the mark, by block and index, the makings that may be the last one ahead of it."""
    entries, ends = ends_of(graph, mark, placed)
    found = {}
    for number, (_, steps, ending) in enumerate(graph[2]):
        now = entries[number]
        for index, step in enumerate(steps):
            if mark in step[2]:
                found[(number, index)] = now
            if mark in step[0]:
                now = {(number, index)}
        if mark in oracles.reads_of_ending(ending):
            found[(number, len(steps))] = now
        if any(target in placed for target in oracles.named(ending)):
            found[(number, "end")] = now
    return found


def is_right(graph, mark, placed):
    return all(len(makings) == 1 and NOWHERE not in makings for makings in readings_of(graph, mark, placed).values())


def least_blocks(graph, mark):
    """The blocks of the right placing of the mark that lies in every right one, by trying all."""
    blocks = range(1, len(graph[2]))
    right = [set(some) for many in range(len(graph[2])) for some in combinations(blocks, many)
             if is_right(graph, mark, set(some))]
    least = set.intersection(*right)
    assert least in right
    return least


def naive_settled(graph, placed):
    """placed has for each mark the set of its blocks."""
    marks = sorted(placed)
    fresh = {}
    takes = []
    for number, (own, steps, _) in enumerate(graph[2]):
        taken = own if number == 0 else tuple(mark for mark in marks if number in placed[mark])
        takes.append(taken)
        for mark in taken:
            fresh[(mark, number, -1)] = len(fresh)
        for index, step in enumerate(steps):
            for mark in step[0]:
                fresh[(mark, number, index)] = len(fresh)
    last = {mark: readings_of(graph, mark, placed[mark]) for mark in marks}

    def name(mark, number, index):
        (making,) = last[mark][(number, index)]
        return fresh[(mark,) + making]

    blocks = []
    for number, (_, steps, ending) in enumerate(graph[2]):
        rows = tuple((tuple(fresh[(mark, number, index)] for mark in makes), verb,
                      tuple(name(mark, number, index) for mark in reads), note)
                     for index, (makes, verb, reads, note) in enumerate(steps))
        if ending[0] == "to":
            ending = ("to", ending[1], tuple(name(mark, number, "end") for mark in takes[ending[1]]))
        elif ending[0] == "by":
            ending = ("by", name(ending[1], number, len(steps))) + ending[2:]
        else:
            ending = ("give", tuple(name(mark, number, len(steps)) for mark in ending[1]))
        blocks.append((tuple(fresh[(mark, number, -1)] for mark in takes[number]), rows, ending))
    return graph[:2] + (tuple(blocks),)


class SettlingTest(unittest.TestCase):
    def test_example(self):
        self.assertEqual(settled(graph_of(DOWN, "down"))[2][2], (
            (), (((2,), "number", (), 1), ((3,), "sub", (1, 2), 0), ((4,), "copy", (3,), 0)), ("to", 1, (4,))))

    def test_settled_ones_are_counted_anew(self):
        for graph in (ONE, TWO, SIX, PAIR, FAR):
            self.assertEqual(settled(graph), graph)
        graph = ("g", 1, (((7, 3), (((9,), "add", (3, 7), 0), ((9,), "copy", (9,), 0)), ("give", (9,))),))
        self.assertEqual(settled(graph), ("g", 1, (((0, 1), (((2,), "add", (1, 0), 0), ((3,), "copy", (2,), 0)), ("give", (3,))),)))

    def test_a_join_where_two_makings_meet(self):
        def makes(word):
            return ((), (((1,), "number", (), word),), ("to", 3, ()))
        graph = ("g", 1, (((0,), (), ("by", 0, 1, 2)), makes(5), makes(6), ((), (), ("give", (1,)))))
        self.assertEqual(settled(graph)[2], (
            ((0,), (), ("by", 0, 1, 2)), ((), (((1,), "number", (), 5),), ("to", 3, (1,))),
            ((), (((2,), "number", (), 6),), ("to", 3, (2,))), ((3,), (), ("give", (3,)))))

    def test_no_join_for_what_is_not_awaited(self):
        def makes(word):
            return ((), (((1,), "number", (), word), ((), "tell", (1,), 0)), ("to", 3, ()))
        graph = ("g", 1, (((0,), (), ("by", 0, 1, 2)), makes(5), makes(6), ((), (), ("give", (0,)))))
        self.assertEqual(settled(graph)[2][3], ((), (), ("give", (0,))))

    def test_joins_are_taken_in_the_order_of_their_marks(self):
        graph = ("g", 2, (((4, 2), (), ("to", 1, ())), ((), (BEAT,), ("by", 2, 2, 3)),
                          ((), (((2,), "copy", (4,), 0), ((4,), "copy", (2,), 0)), ("to", 1, ())), ((), (), ("give", (4, 2)))))
        self.assertEqual(settled(graph)[2], (
            ((0, 1), (), ("to", 1, (1, 0))), ((2, 3), (BEAT,), ("by", 2, 2, 3)),
            ((), (((4,), "copy", (3,), 0), ((5,), "copy", (4,), 0)), ("to", 1, (4, 5))), ((), (), ("give", (3, 2)))))

    def test_random_graphs_by_trying_each_placing(self):
        joins = 0
        for graph in loose_graphs(150, 1, 3, 8):
            self.assertTrue(is_loose(graph))
            placed = {mark: least_blocks(graph, mark) for mark in range(3)}
            self.assertEqual(least_placing(graph), [
                [mark for mark in range(3) if block in placed[mark]] for block in range(len(graph[2]))])
            self.assertEqual(settled(graph), naive_settled(graph, placed))
            joins += sum(map(len, placed.values()))
        self.assertGreater(joins, 60)

    def test_larger_random_graphs(self):
        for graph in loose_graphs(60, 2, 6, 25):
            table = least_placing(graph)
            placed = {mark: {block for block, marks in enumerate(table) if mark in marks} for mark in range(6)}
            for mark in range(6):
                self.assertTrue(is_right(graph, mark, placed[mark]))
                for block in placed[mark]:
                    self.assertFalse(is_right(graph, mark, placed[mark] - {block}))
            self.assertTrue(is_settled(settled(graph)))
            self.assertEqual(settled(graph), naive_settled(graph, placed))

    def test_runs_of_random_units(self):
        for units in bound_units(100, seed=9):
            loose = [graph_of(unit, function[0]) for unit in units for function in unit[3]]
            graphs = [settled(graph) for graph in loose]
            self.assertTrue(all(is_settled(graph) for graph in graphs))
            for seed in range(3):
                args = some_args(units, seed)
                self.assertEqual(GraphRun(graphs, 40).outcome(args), GraphRun(loose, 40).outcome(args))

    def test_by_name(self):
        self.assertEqual(settled(loose=ONE), ONE)


if __name__ == "__main__":
    unittest.main()
