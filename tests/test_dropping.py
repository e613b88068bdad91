import unittest

from linkneed.dropping import dropped, spare_marks
from linkneed.folding import folded
from tests import oracles
from tests.samples import BEAT, LOOP, ONE, PICK, SIX, TWO, settled_graphs
from tests.test_folding import plain


class DroppingTest(unittest.TestCase):
    def test_example(self):
        self.assertEqual([spare_marks(folded(SIX)), spare_marks(TWO)], [(0, 1, 2, 3), ()])
        self.assertEqual(dropped(folded(SIX))[2][0][1], (BEAT, ((4,), "number", (), 0)))

    def test_nothing_to_drop(self):
        for graph in (TWO, ONE, LOOP, PICK):
            self.assertEqual([spare_marks(graph), dropped(graph)], [(), graph])

    def test_what_block_0_takes_stays(self):
        graph = plain((), (), (0, 1))
        self.assertEqual([spare_marks(graph), dropped(graph)], [(), graph])

    def test_unread_steps(self):
        steps = tuple(((number + 2,), verb, (0, 1), 0) for number, verb in enumerate(("add", "sub", "mul", "less", "same")))
        graph = plain(steps + (((7,), "copy", (2,), 0), ((8,), "number", (), 1)), (), (0, 1))
        self.assertEqual(spare_marks(graph), (2, 3, 4, 5, 6, 7, 8))
        self.assertEqual(dropped(graph), plain((), (), (0, 1)))

    def test_what_may_fault_or_call_or_tell_stays(self):
        graph = plain((((2,), "div", (0, 1), 0), ((3,), "rem", (0, 1), 1), ((4, 5), "call", (0,), ("f", 2)),
                       ((6,), "copy", (0,), 0), ((), "tell", (6,), 0)), (), (0, 1))
        self.assertEqual(spare_marks(graph), ())

    def test_safe_divisions_go(self):
        graph = plain((((2,), "number", (), 3), ((3,), "div", (0, 2), 0), ((4,), "rem", (1, 2), 1)), (), (0, 1))
        self.assertEqual(spare_marks(graph), (2, 3, 4))
        self.assertEqual(dropped(graph), plain((), (), (0, 1)))

    def test_division_by_the_number_0_stays(self):
        graph = plain((((2,), "number", (), 0), ((3,), "div", (0, 2), 0)), (), (0, 1))
        self.assertEqual(spare_marks(graph), ())

    def test_the_dividend_counts_not(self):
        graph = plain((((2,), "number", (), 4), ((3,), "div", (2, 0), 0)), (), (0,))
        self.assertEqual(spare_marks(graph), ())

    def test_a_mark_with_a_reading_that_stays(self):
        graph = plain((((1,), "number", (), 4), ((2,), "add", (1, 0), 0), ((3,), "add", (1, 2), 0)), (2,), (0,))
        self.assertEqual(spare_marks(graph), (3,))

    def test_takes_and_what_is_handed(self):
        graph = ("g", 1, (((0,), (((1,), "number", (), 0),), ("to", 1, (1, 0, 0))),
                          ((2, 3, 6), (BEAT,), ("by", 3, 2, 3)),
                          ((), (((4,), "number", (), 1), ((5,), "add", (2, 4), 0)), ("to", 1, (5, 3, 0))),
                          ((), (), ("give", (6,)))))
        self.assertEqual(spare_marks(graph), (1, 2, 4, 5))
        self.assertEqual(dropped(graph)[2], (((0,), (), ("to", 1, (0, 0))), ((3, 6), (BEAT,), ("by", 3, 2, 3)),
                                            ((), (), ("to", 1, (3, 0))), ((), (), ("give", (6,)))))

    def test_takes_that_read_each_other(self):
        graph = ("g", 0, (((0,), (), ("to", 1, (0, 0))), ((1, 2), (BEAT,), ("to", 1, (2, 1)))))
        self.assertEqual(spare_marks(graph), (1, 2))
        self.assertEqual(dropped(graph)[2], (((0,), (), ("to", 1, ())), ((), (BEAT,), ("to", 1, ()))))

    def test_random_graphs_by_trying_each_set(self):
        tried = 0
        for graph in settled_graphs(200, seed=31, most_blocks=6, most_steps=3, few_words=True):
            free = [mark for mark in oracles.marks_of(graph) if not oracles.made_otherwise(graph, mark)]
            if len(free) <= 9:
                tried += 1
                self.assertEqual(spare_marks(graph), oracles.spare_marks(graph))
        self.assertGreater(tried, 80)

    def test_random_graphs(self):
        for graph in settled_graphs(80, seed=32, few_words=True):
            marks = spare_marks(graph)
            if marks == ():
                self.assertEqual(dropped(graph), graph)
                continue
            self.assertTrue(oracles.drop_due(graph, marks))
            self.assertEqual(dropped(graph), oracles.without(graph, marks))

    def test_outcomes_stay(self):
        for graph in settled_graphs(60, seed=33, calls=False, few_words=True):
            for args in ((0, 1, 2), (5, 5, 5)):
                args = args[:len(graph[2][0][0])]
                self.assertEqual(oracles.run_settled(dropped(graph), args, 20), oracles.run_settled(graph, args, 20))

    def test_by_name(self):
        self.assertEqual([spare_marks(graph=ONE), dropped(graph=ONE)], [(), ONE])


if __name__ == "__main__":
    unittest.main()
