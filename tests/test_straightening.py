import unittest

from linkneed.straightening import straightened
from tests import oracles
from tests.samples import BEAT, FAR, LOOP, ONE, PICK, SIX, TWO, settled_graphs


class StraighteningTest(unittest.TestCase):
    def test_example(self):
        self.assertEqual(straightened(PICK)[2], (((0,), (BEAT, ((1,), "number", (), 0)), ("give", (0,))),))

    def test_nothing_to_do(self):
        for graph in (ONE, TWO, LOOP, SIX, FAR):
            self.assertEqual(straightened(graph), graph)

    def test_any_word_but_0_means_yes(self):
        graph = PICK[:2] + (((PICK[2][0][0], (BEAT, ((1,), "number", (), 65535)), ("by", 1, 1, 2)),) + PICK[2][1:],)
        self.assertEqual(straightened(graph)[2], (((0,), (BEAT, ((1,), "number", (), 65535)), ("give", (1,))),))

    def test_blocks_behind_what_goes_are_counted_anew(self):
        graph = ("g", 1, (((0,), (((1,), "number", (), 1),), ("by", 1, 2, 1)), ((), (), ("to", 3, (1,))),
                          ((), (), ("by", 0, 4, 5)), ((2,), (BEAT,), ("by", 2, 6, 7)), ((), (), ("to", 3, (0,))),
                          ((), (), ("to", 3, (1,))), ((), (), ("to", 3, (2,))), ((), (), ("give", (2,)))))
        self.assertEqual(straightened(graph)[2], (
            ((0,), (((1,), "number", (), 1),), ("by", 0, 2, 3)), ((2,), (BEAT,), ("by", 2, 4, 5)), ((), (), ("to", 1, (0,))),
            ((), (), ("to", 1, (1,))), ((), (), ("to", 1, (2,))), ((), (), ("give", (2,)))))

    def test_joins_hand_over_takes(self):
        graph = ("g", 2, (((0, 1), (), ("to", 2, (1, 0))), ((5, 6), (((7,), "sub", (5, 3), 0),), ("give", (7, 6))),
                          ((2, 3), (((4,), "sub", (2, 3), 0),), ("to", 1, (4, 2)))))
        self.assertEqual(straightened(graph), (
            "g", 2, (((0, 1), (((4,), "sub", (1, 0), 0), ((7,), "sub", (4, 0), 0)), ("give", (7, 1))),)))

    def test_a_loop_is_not_joined_into_itself(self):
        graph = ("g", 0, (((), (), ("to", 1, ())), ((), (BEAT,), ("to", 1, ()))))
        self.assertEqual(straightened(graph), graph)

    def test_a_straight_deed_behind_a_join_is_not_done(self):
        # Only the join lets a number step, not a take, decide.
        graph = ("g", 0, (((), (((0,), "number", (), 0),), ("to", 1, (0,))), ((1,), (), ("by", 1, 2, 3)),
                          ((), (), ("give", ())), ((), (), ("give", ()))))
        self.assertEqual(straightened(graph)[2], (((), (((0,), "number", (), 0),), ("by", 0, 1, 2)),
                                                 ((), (), ("give", ())), ((), (), ("give", ()))))

    def test_random_graphs(self):
        for number, graph in enumerate(settled_graphs(150, seed=41, most_blocks=14, few_words=True)):
            self.assertEqual(straightened(graph), oracles.straightened(graph), number)

    def test_outcomes_stay(self):
        for graph in settled_graphs(60, seed=42, calls=False, few_words=True):
            for args in ((0, 1, 2), (5, 5, 5)):
                args = args[:len(graph[2][0][0])]
                self.assertEqual(oracles.run_settled(straightened(graph), args, 20), oracles.run_settled(graph, args, 20))

    def test_by_name(self):
        self.assertEqual(straightened(graph=ONE), ONE)


if __name__ == "__main__":
    unittest.main()
