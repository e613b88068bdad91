import unittest

from linkneed.graphing import graph_of
from linkneed.graphruns import run_graphs
from linkneed.passes import passed
from linkneed.settling import settled
from tests import oracles
from tests.checks import refusal, same_kind, unusable
from tests.programsamples import programs
from tests.samples import BEAT, CASES, LOOP, ONE, OPERATIONS, ROUND, TWO, settled_graphs
from tests.unitsamples import GraphRun, TreeRun, bound_units, some_args

SUM = (("main",) + LOOP[1:],)
WORDS = (0, 1, 2, 7, 300, 65535)


class GraphRunsTest(unittest.TestCase):
    def test_examples(self):
        self.assertEqual(run_graphs(SUM, (3,), 4), ((), ("on",), 4))
        self.assertEqual(run_graphs(SUM, (3,), 5), ((), ("gave", (6,)), 5))
        self.assertEqual(run_graphs((ONE, TWO), (5,), 9), ((), ("gave", (15,)), 2))
        self.assertEqual(run_graphs((TWO, ONE), (5,), 1), ((), ("on",), 1))
        self.assertEqual(run_graphs((TWO, ONE), (5,), 0), ((), ("on",), 0))

    def test_cases(self):
        loose = graph_of(CASES, "main")
        for graph in (loose, settled(loose)):
            self.assertEqual(run_graphs((graph,), (1, 2, 9), 50), ((2, 1), ("fault", "nought", "main", 0), 4))
            self.assertEqual(run_graphs((graph,), (1, 2, 9), 3), ((2, 1), ("on",), 3))
            self.assertEqual(run_graphs((graph,), (0, 0, 9), 50), ((), ("gave", (7,)), 1))

    def test_beat_steps_take_the_beats(self):
        graph = ("main", 0, (((), (BEAT, BEAT, ((), "call", (), ("f", 0)), BEAT), ("give", ())),))
        idle = ("f", 0, (((), (), ("give", ())),))
        self.assertEqual(run_graphs((graph, idle), (), 9), ((), ("gave", ()), 3))
        self.assertEqual(run_graphs((graph, idle), (), 2), ((), ("on",), 2))

    def test_faults(self):
        for verb in ("div", "rem"):
            steps = (BEAT, ((), "tell", (0,), 0), ((2,), verb, (0, 1), 7))
            graph = ("main", 1, (((0, 1), steps, ("give", (2,))),))
            self.assertEqual(run_graphs((graph,), (9, 0), 5), ((9,), ("fault", "nought", "main", 7), 1))
            self.assertEqual(run_graphs((graph,), (9, 4), 5), ((9,), ("gave", (2 if verb == "div" else 1,)), 1))
            calling = ("main", 1, (((0, 1), (BEAT, ((2,), "call", (0, 1), ("f", 3))), ("give", (2,))),))
            self.assertEqual(run_graphs((calling, ("f",) + graph[1:]), (9, 0), 5), ((9,), ("fault", "nought", "f", 7), 2))

    def test_deep(self):
        self.assertEqual(run_graphs((ROUND,), (16,), 99), ((), ("fault", "deep", "main", 0), 16))
        self.assertEqual(run_graphs((ROUND,), (16,), 16), ((), ("fault", "deep", "main", 0), 16))
        self.assertEqual(run_graphs((ROUND,), (16,), 15), ((), ("on",), 15))
        self.assertEqual(run_graphs((ROUND,), (15,), 99), ((), ("gave", (120,)), 16))
        down = ("down", 1, ROUND[2][:1] + (((), ROUND[2][1][1][:2] + (((3,), "call", (2,), ("main", 5)),), ("give", (3,))),
                                           ((), (), ("give", (0,)))))
        main = ROUND[:2] + (ROUND[2][:1] + (((), ROUND[2][1][1][:2] + (((3,), "call", (2,), ("down", 4)),), ("give", (3,))),)
                            + ROUND[2][2:],)
        self.assertEqual(run_graphs((down, main), (99,), 99), ((), ("fault", "deep", "down", 5), 16))

    def test_several_words_come_back(self):
        two = ("two", 2, (((5, 6), (BEAT,), ("give", (6, 5))),))
        main = ("main", 3, (((0, 1), (BEAT, ((3, 2), "call", (0, 1), ("two", 0)), ((4,), "sub", (3, 2), 0)),
                             ("give", (4, 2, 3))),))
        self.assertEqual(run_graphs((main, two), (3, 10), 9), ((), ("gave", (7, 3, 10)), 2))

    def test_all_handed_at_once(self):
        graph = ("main", 2, (((0, 1), (BEAT,), ("to", 1, (0, 1, 0))), ((2, 3, 4), (BEAT,), ("by", 4, 2, 3)),
                             ((), (((5,), "number", (), 0),), ("to", 1, (3, 2, 5))), ((), (), ("give", (2, 3)))))
        self.assertEqual(run_graphs((graph,), (7, 9), 9), ((), ("gave", (9, 7)), 3))
        self.assertEqual(run_graphs((graph,), (0, 9), 9), ((), ("gave", (0, 9)), 2))

    def test_operations(self):
        for operation in OPERATIONS:
            graph = ("main", 1, (((0, 1), (((2,), operation, (0, 1), 0),), ("give", (2,))),))
            for one in WORDS:
                for other in WORDS:
                    word = oracles.worked(operation, one, other)
                    end = ("gave", (word,)) if word is not None else ("fault", "nought", "main", 0)
                    self.assertTrue(same_kind(run_graphs((graph,), (one, other), 0), ((), end, 0)))

    def test_random_graphs(self):
        for seed, graph in enumerate(settled_graphs(60, seed=202, calls=False)):
            graph = ("main",) + graph[1:]
            args = (WORDS[seed % 6:] + WORDS)[:len(graph[2][0][0])]
            for most in (0, 2, 40):
                self.assertEqual(run_graphs((graph,), args, most), oracles.run_settled(graph, args, most))

    def test_random_programs(self):
        ends = set()
        for seed, graphs in enumerate(programs(120, seed=2, rings=0.4)):
            main = [graph for graph in graphs if graph[0] == "main"][0]
            args = (WORDS[seed % 6:] + WORDS)[:len(main[2][0][0])]
            for most in (0, 1, 7, 80):
                outcome = run_graphs(graphs, args, most)
                self.assertTrue(same_kind(outcome, GraphRun(graphs, most).outcome(args)))
                ends.add(outcome[1][:2] if outcome[1][0] == "fault" else outcome[1][:1])
        self.assertEqual(ends, {("gave",), ("on",), ("fault", "deep"), ("fault", "nought")})

    def test_random_units(self):
        for seed, units in enumerate(bound_units(50, seed=62)):
            loose = tuple(graph_of(unit, function[0]) for unit in units for function in unit[3])
            for graphs in (loose, tuple(map(settled, loose)), tuple(passed(settled(one), ("lift", "fold")) for one in loose)):
                for most in (0, 1, 4, 60):
                    args = some_args(units, seed)
                    self.assertTrue(same_kind(run_graphs(graphs, args, most), TreeRun(units, most).outcome(args)))

    def test_refusals_in_order(self):
        for args in ((), (1, 2), (True,), (-1,), (65536,), ("1",), [5], 5, None, "5", ((5,),)):
            self.assertEqual(refusal(run_graphs, (ONE, TWO), args, -1), unusable("args"))
        for most in (-1, True, None, "9", (9,), [9]):
            self.assertEqual(refusal(run_graphs, (ONE, TWO), (5,), most), unusable("most"))

    def test_by_name(self):
        self.assertEqual(run_graphs(most=9, graphs=(ONE, TWO), args=(5,)), ((), ("gave", (15,)), 2))


if __name__ == "__main__":
    unittest.main()
