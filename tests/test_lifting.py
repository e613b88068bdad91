import unittest

from linkneed.lifting import lifted, loops_of
from tests import oracles
from tests.samples import BEAT, FAR, LOOP, ONE, PICK, SIX, TWO, settled_graphs

# A loop in a loop; block 2 is the inner head.
NESTED = ("n", 1, (
    ((0,), (((1,), "number", (), 5),), ("to", 1, (0,))),
    ((2,), (BEAT,), ("by", 2, 3, 6)),
    ((3,), (BEAT, ((4,), "mul", (0, 1), 0), ((5,), "add", (2, 1), 0)), ("by", 3, 4, 5)),
    ((), (), ("to", 2, (2,))),
    ((), (((6,), "sub", (3, 5), 0), ((7,), "number", (), 1)), ("to", 2, (6,))),
    ((), (((8,), "sub", (2, 4), 0),), ("to", 1, (8,))),
    ((), (), ("give", (2,)))))


class LiftingTest(unittest.TestCase):
    def test_example(self):
        self.assertEqual([loops_of(LOOP), loops_of(PICK)], [((1, (1, 2)),), ()])
        self.assertEqual(lifted(LOOP)[2][2][1], (((4,), "add", (3, 2), 0), ((6,), "sub", (2, 5), 0)))
        self.assertEqual(lifted(LOOP)[2][0][1], (BEAT, ((1,), "number", (), 0), ((5,), "number", (), 1)))

    def test_nested_loops(self):
        self.assertEqual(loops_of(NESTED), ((1, (1, 2, 3, 4, 5)), (2, (2, 4))))
        behind = lifted(NESTED)
        self.assertEqual(behind, oracles.lifted(NESTED))
        self.assertEqual(behind[2][0][1], (((1,), "number", (), 5), ((4,), "mul", (0, 1), 0), ((7,), "number", (), 1)))
        self.assertEqual(behind[2][3][1], (((5,), "add", (2, 1), 0),))

    def test_a_block_that_goes_to_itself(self):
        graph = ("g", 0, (((0,), (), ("to", 1, (0,))), ((1,), (BEAT, ((2,), "number", (), 1), ((3,), "sub", (1, 2), 0)), (
            "to", 1, (3,)))))
        self.assertEqual(loops_of(graph), ((1, (1,)),))
        self.assertEqual(lifted(graph)[2], (((0,), (((2,), "number", (), 1),), ("to", 1, (0,))),
                                           ((1,), (BEAT, ((3,), "sub", (1, 2), 0)), ("to", 1, (3,)))))

    def test_a_head_that_is_a_tail_beside_another_one(self):
        graph = ("g", 0, (((0,), (), ("to", 1, ())), ((), (BEAT,), ("by", 0, 2, 3)), ((), (), ("to", 1, ())),
                          ((), (), ("to", 4, ())), ((), (BEAT,), ("to", 4, ()))))
        self.assertEqual(loops_of(graph), ((1, (1, 2)), (4, (4,))))

    def test_only_safe_steps_are_lifted(self):
        graph = ("g", 0, (((0,), (((9,), "number", (), 2), ((8,), "number", (), 0)), ("to", 1, ())), ((), (
            BEAT, ((1,), "div", (0, 9), 0), ((2,), "div", (0, 0), 1), ((3,), "rem", (0, 8), 2), ((), "tell", (0,), 0),
            ((4,), "call", (0,), ("f", 3)), ((5,), "rem", (9, 9), 4), ((6,), "add", (2, 0), 0), ((7,), "copy", (1,), 0)),
            ("to", 1, ()))))
        self.assertEqual(lifted(graph)[2][0][1][2:], (
            ((1,), "div", (0, 9), 0), ((5,), "rem", (9, 9), 4), ((7,), "copy", (1,), 0)))

    def test_entered_twice_is_no_loop(self):
        graph = ("x", 0, (((0,), (), ("by", 0, 1, 2)), ((), (), ("to", 3, ())), ((), (), ("to", 4, ())),
                          ((), (BEAT, ((1,), "number", (), 1)), ("to", 4, ())), ((), (BEAT,), ("to", 3, ()))))
        self.assertEqual([loops_of(graph), lifted(graph)], [(), graph])

    def test_nothing_to_do(self):
        for graph in (ONE, TWO, SIX, FAR, PICK):
            self.assertEqual([loops_of(graph), lifted(graph)], [(), graph])

    def test_random_graphs(self):
        for graph in settled_graphs(150, seed=51, most_blocks=14, few_words=True):
            self.assertEqual(loops_of(graph), oracles.loops_of(graph))
            self.assertEqual(lifted(graph), oracles.lifted(graph))

    def test_outcomes_stay(self):
        for graph in settled_graphs(60, seed=52, calls=False, few_words=True):
            for args in ((0, 1, 2), (5, 5, 5)):
                args = args[:len(graph[2][0][0])]
                self.assertEqual(oracles.run_settled(lifted(graph), args, 20), oracles.run_settled(graph, args, 20))

    def test_by_name(self):
        self.assertEqual([loops_of(graph=ONE), lifted(graph=ONE)], [(), ONE])


if __name__ == "__main__":
    unittest.main()
