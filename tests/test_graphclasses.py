import unittest

from linkneed.graphclasses import Flow, Loose
from linkneed.graphing import graph_of
from linkneed.graphkinds import is_graph, is_loose, is_settled
from linkneed.joining import joins_of, lets_placing
from linkneed.loosening import loosened
from linkneed.orders import followers
from linkneed.settling import settled
from tests import oracles
from tests.checks import refusal, same_kind, unusable
from tests.samples import BEAT, DOWN, LOOP, MAIN, ODD_VALUES, ONE, PICK, TWICE, TWO, settled_graphs
from tests.test_settling import loose_graphs

# Reads a mark that nothing makes; a graph, but neither loose nor settled.
UNMADE = ("g", 1, (((0,), (), ("to", 1, ())), ((), (((0,), "copy", (7,), 0),), ("give", (0,)))))


class FlowTest(unittest.TestCase):
    def test_examples(self):
        one = Flow(LOOP)
        self.assertEqual([one.kind_now, one.counts(), str(one), 6 in one], [(False, True), (4, 6, 7), "0: 1\n1: 2 3\n2: 1\n3:", True])
        self.assertTrue(Loose.of_unit(MAIN, "main") == Flow(TWO))
        self.assertEqual(one.graph_now, LOOP)

    def test_kinds(self):
        for graph in (ONE, TWO, LOOP, PICK, UNMADE, graph_of(DOWN, "down"), loosened(LOOP)):
            kind = Flow(graph).kind_now
            self.assertTrue(same_kind(kind, (is_loose(graph), is_settled(graph))))
        self.assertEqual([Flow(UNMADE).kind_now, Flow(ONE).kind_now], [(False, False), (True, True)])

    def test_counts(self):
        self.assertTrue(same_kind(Flow(UNMADE).counts(), (2, 1, 1)))
        self.assertEqual(Flow(loosened(LOOP)).counts(), (4, 14, 11))
        for graph in settled_graphs(30, seed=203) + loose_graphs(30, 4, 3, 7):
            steps = sum(len(block[1]) for block in graph[2])
            self.assertEqual(Flow(graph).counts(), (len(graph[2]), steps, len(oracles.marks_of(graph))))

    def test_lines(self):
        # A choice may name the later block first.
        graph = ("g", 0, (((0,), (), ("by", 0, 2, 1)), ((), (), ("give", ())), ((), (), ("give", ()))))
        self.assertEqual(Flow(graph).lines(), ("0: 1 2", "1:", "2:"))
        for graph in settled_graphs(30, seed=204, most_blocks=14):
            lines = tuple("".join([f"{number}:"] + [f" {one}" for one in followers(graph, number)])
                          for number in range(len(graph[2])))
            one = Flow(graph)
            self.assertTrue(same_kind(one.lines(), lines))
            self.assertEqual(str(one), "\n".join(lines))

    def test_as_a_container(self):
        one = Flow(LOOP)
        self.assertEqual([len(one), list(one), tuple(one)], [4, list(LOOP[2]), LOOP[2]])
        self.assertEqual([mark for mark in range(20) if mark in one], list(range(7)))
        for thing in (None, True, False, "0", (0,), [0], -1, 10 ** 59, LOOP[2][0]):
            self.assertIs(thing in one, False)
        self.assertEqual([7 in Flow(UNMADE), 0 in Flow(UNMADE), 1 in Flow(ONE), 2 in Flow(ONE)], [False, True, True, False])

    def test_settle(self):
        loose = graph_of(DOWN, "down")
        for one in (Flow(loose), Loose(loose)):
            self.assertIs(type(one.settle()), Flow)
            self.assertEqual(one.settle().graph_now, settled(loose))
        self.assertEqual(refusal(Flow(LOOP).settle), unusable("graph"))
        self.assertEqual(refusal(Flow(UNMADE).settle), unusable("graph"))

    def test_loosen(self):
        one = Flow(LOOP).loosen()
        self.assertIs(type(one), Loose)
        self.assertEqual(one.graph_now, loosened(LOOP))
        self.assertEqual(Loose(ONE).loosen(), Flow(ONE))
        for graph in (graph_of(DOWN, "down"), UNMADE):
            self.assertEqual(refusal(Flow(graph).loosen), unusable("graph"))
        self.assertEqual(refusal(one.loosen), unusable("graph"))

    def test_equality(self):
        self.assertTrue(Flow(TWO) == Loose(TWO) and Loose(TWO) == Flow(TWO) and not Flow(TWO) != Loose(TWO))
        self.assertFalse(Flow(TWO) == Flow(ONE))
        for thing in (None, TWO, True, "0:", [TWO]):
            self.assertFalse(Flow(TWO) == thing)
            self.assertTrue(Loose(TWO) != thing)

    def test_of_unit(self):
        for maker in (Flow, Loose):
            self.assertIs(type(maker.of_unit(DOWN, "down")), maker)
            self.assertEqual(maker.of_unit(title="twice", unit=TWICE).graph_now, ONE)
            for title in ("main", "twice", None, ["down"], 5):
                self.assertEqual(refusal(maker.of_unit, DOWN, title), ("Missing", {"title": title}))
            self.assertEqual(refusal(maker.of_unit, MAIN, "twice"), ("Missing", {"title": "twice"}))

    def test_joins_and_placings(self):
        one = Loose.of_unit(DOWN, "down")
        self.assertEqual([one.joins(), one.lets(((1, 0),)), one.lets(thing=((1, 0), (2, 0)))], [((1, 0),), 1, 2])
        self.assertEqual(refusal(one.lets, ()), ("InvalidPaper", {"word": "reading", "at": (1, 1)}))
        for graph in loose_graphs(25, 5, 3, 7):
            self.assertEqual(Loose(graph).joins(), joins_of(graph))
            self.assertEqual(Loose(graph).lets(joins_of(graph)), lets_placing(graph, joins_of(graph)))
        self.assertFalse(hasattr(Flow(ONE), "joins") or hasattr(Flow(ONE), "lets"))

    def test_refusals(self):
        for thing in ODD_VALUES + (list(LOOP), LOOP[:2], ("g", 1, ()), ("g", 0, (((), (BEAT,), ("to", 0, ())),)), MAIN):
            self.assertFalse(is_graph(thing))
            self.assertEqual(refusal(Flow, thing), unusable("graph"))
            self.assertEqual(refusal(Loose, thing), unusable("graph"))
        for graph in (LOOP, PICK, UNMADE):
            self.assertEqual(refusal(Loose, graph), unusable("graph"))
            self.assertEqual(Flow(graph=graph).graph_now, graph)

    def test_never_changes(self):
        one = Loose(graph_of(DOWN, "down"))
        one.settle(), one.joins(), one.counts(), one.lines(), list(one)
        self.assertEqual(one.graph_now, graph_of(DOWN, "down"))
        self.assertIsInstance(one, Flow)
        with self.assertRaises(AttributeError):
            one.graph_now = LOOP


if __name__ == "__main__":
    unittest.main()
