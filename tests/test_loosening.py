import unittest

from linkneed.graphing import graph_of
from linkneed.graphkinds import is_loose, is_settled
from linkneed.loosening import loosened
from linkneed.passes import passed
from linkneed.settling import settled
from tests import oracles
from tests.programsamples import programs
from tests.samples import BEAT, DOWN, FAR, LOOP, ONE, PICK, TWO, settled_graphs
from tests.unitsamples import GraphRun, bound_units, some_args


def told_loosened(graph):
    """By the words of the document."""
    fresh = 1 + max(oracles.marks_of(graph), default=-1)
    blocks = []
    for number, (takes, steps, ending) in enumerate(graph[2]):
        if ending[0] == "to":
            between = []
            for mark in ending[2]:
                between.append(fresh)
                steps += (((fresh,), "copy", (mark,), 0),)
                fresh += 1
            for mark, source in zip(graph[2][ending[1]][0], between):
                steps += (((mark,), "copy", (source,), 0),)
            ending = ("to", ending[1], ())
        blocks.append((takes if number == 0 else (), steps, ending))
    return graph[:2] + (tuple(blocks),)


class LooseningTest(unittest.TestCase):
    def test_example(self):
        self.assertEqual(loosened(LOOP), ("sum", 1, (
            ((0,), (BEAT, ((1,), "number", (), 0), ((7,), "copy", (0,), 0), ((8,), "copy", (1,), 0), ((2,), "copy", (7,), 0),
                    ((3,), "copy", (8,), 0)), ("to", 1, ())),
            ((), (BEAT,), ("by", 2, 2, 3)),
            ((), (((4,), "add", (3, 2), 0), ((5,), "number", (), 1), ((6,), "sub", (2, 5), 0), ((9,), "copy", (6,), 0),
                  ((10,), "copy", (4,), 0), ((2,), "copy", (9,), 0), ((3,), "copy", (10,), 0)), ("to", 1, ())),
            ((), (), ("give", (3,))))))

    def test_nothing_handed(self):
        for graph in (ONE, TWO, FAR, ("g", 0, (((), (BEAT,), ("to", 1, ())), ((), (), ("give", ()))))):
            self.assertEqual(loosened(graph), graph)

    def test_the_greatest_mark_may_be_taken(self):
        graph = ("g", 1, (((3,), (), ("to", 1, (3,))), ((9,), (), ("give", (9,)))))
        self.assertEqual(loosened(graph)[2][0], ((3,), (((10,), "copy", (3,), 0), ((9,), "copy", (10,), 0)), ("to", 1, ())))
        self.assertEqual(loosened(PICK)[2][1][1], (((3,), "copy", (1,), 0), ((2,), "copy", (3,), 0)))
        self.assertEqual(loosened(PICK)[2][2][1], (((4,), "copy", (0,), 0), ((2,), "copy", (4,), 0)))

    def test_handed_crosswise(self):
        # Each round gives to one take what the other one had.
        graph = ("main", 2, (
            ((0, 1, 2), (BEAT,), ("to", 1, (0, 1, 2))), ((3, 4, 5), (BEAT,), ("by", 5, 2, 3)),
            ((), (((6,), "number", (), 1), ((7,), "sub", (5, 6), 0)), ("to", 1, (4, 3, 7))), ((), (), ("give", (3, 4)))))
        self.assertTrue(is_settled(graph))
        for many in range(4):
            words = (10, 20) if many % 2 == 0 else (20, 10)
            for one in (graph, loosened(graph)):
                self.assertEqual(GraphRun((one,), 99).outcome((10, 20, many)), ((), ("gave", words), 2 + many))

    def test_random_graphs(self):
        for graph in settled_graphs(120, seed=201):
            loose = loosened(graph)
            self.assertEqual(loose, told_loosened(graph))
            self.assertTrue(is_loose(loose))
            self.assertTrue(is_settled(settled(loose)))

    def test_outcomes(self):
        for seed, graphs in enumerate(programs(60, seed=1)):
            main = [graph for graph in graphs if graph[0] == "main"][0]
            args = (5, 0, 65535)[seed % 3:][:len(main[2][0][0])] + (7,) * 3
            args = args[:len(main[2][0][0])]
            loose = tuple(map(loosened, graphs))
            again = tuple(map(settled, loose))
            for most in (0, 3, 60):
                outcome = GraphRun(graphs, most).outcome(args)
                self.assertEqual(GraphRun(loose, most).outcome(args), outcome)
                self.assertEqual(GraphRun(again, most).outcome(args), outcome)

    def test_units_settled_and_loosened_again(self):
        for seed, units in enumerate(bound_units(25, seed=61)):
            graphs = tuple(settled(graph_of(unit, function[0])) for unit in units for function in unit[3])
            for names in ((), ("fold", "drop", "straighten", "lift")):
                behind = tuple(passed(graph, names) for graph in graphs)
                args = some_args(units, seed)
                self.assertEqual(GraphRun(tuple(map(loosened, behind)), 50).outcome(args), GraphRun(graphs, 50).outcome(args))

    def test_by_name(self):
        self.assertEqual(loosened(graph=LOOP), loosened(LOOP))
        down = settled(graph_of(DOWN, "down"))
        self.assertTrue(is_loose(loosened(graph=down)))


if __name__ == "__main__":
    unittest.main()
