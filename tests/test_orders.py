import unittest

from linkneed.orders import dominates, dominators, followers, leaders
from tests import oracles
from tests.checks import refusal, unusable
from tests.samples import LOOP, ODD_VALUES, ONE, PICK, settled_graphs

# Two blocks that go to each other, both entered from outside.
CROSSED = ("x", 0, (
    ((0,), (), ("by", 0, 1, 2)), ((), (), ("to", 4, ())), ((), (), ("to", 3, ())), ((), (), ("to", 4, ())),
    ((), (), ("by", 0, 5, 6)), ((), (), ("to", 3, ())), ((), (), ("give", ()))))


class OrdersTest(unittest.TestCase):
    def test_example(self):
        self.assertEqual([followers(LOOP, 1), leaders(LOOP, 1), dominators(LOOP), dominates(LOOP, 2, 3)],
                         [(2, 3), (0, 2), (None, 0, 1, 1), False])

    def test_single_block(self):
        self.assertEqual([followers(ONE, 0), leaders(ONE, 0), dominators(ONE), dominates(ONE, 0, 0)], [(), (), (None,), True])

    def test_named_in_descending_order(self):
        graph = ("x", 0, (((0,), (), ("by", 0, 2, 1)), ((), (), ("give", ())), ((), (), ("to", 3, ())),
                          ((), (), ("to", 3, ()))))
        self.assertEqual(followers(graph, 0), (1, 2))
        self.assertEqual([followers(graph, 3), leaders(graph, 3)], [(3,), (2, 3)])

    def test_entered_twice(self):
        self.assertEqual(dominators(CROSSED), (None, 0, 0, 0, 0, 4, 4))
        self.assertEqual([dominates(CROSSED, 3, 4), dominates(CROSSED, 4, 3)], [False, False])

    def test_random_graphs(self):
        for graph in settled_graphs(60, seed=1, most_blocks=12) + [PICK, CROSSED]:
            many = len(graph[2])
            self.assertEqual(dominators(graph), tuple(oracles.nearest_dominator(graph, block) for block in range(many)))
            for one in range(many):
                named = oracles.named(graph[2][one][2])
                self.assertEqual(followers(graph, one), tuple(sorted(named)))
                self.assertEqual(leaders(graph, one), tuple(
                    block for block in range(many) if one in oracles.named(graph[2][block][2])))
                for other in range(many):
                    self.assertIs(dominates(graph, one, other), oracles.dominates(graph, one, other))

    def test_refusals(self):
        for thing in [thing for thing in ODD_VALUES if thing != 0 or thing is False] + [4, 5]:
            self.assertEqual(refusal(followers, LOOP, thing), unusable("block"))
            self.assertEqual(refusal(leaders, LOOP, thing), unusable("block"))
            self.assertEqual(refusal(dominates, LOOP, thing, thing), unusable("one"))
            self.assertEqual(refusal(dominates, LOOP, 3, thing), unusable("other"))

    def test_by_name(self):
        self.assertEqual(followers(graph=LOOP, block=0), (1,))
        self.assertEqual(leaders(block=3, graph=LOOP), (1,))
        self.assertEqual(dominators(graph=ONE), (None,))
        self.assertIs(dominates(graph=LOOP, other=2, one=1), True)


if __name__ == "__main__":
    unittest.main()
