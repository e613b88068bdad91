import random
import unittest

from linkneed.folding import due_folds, fold_deeds, folded
from tests import oracles
from tests.samples import BEAT, FAR, LOOP, ONE, PICK, SIX, TWO, settled_graphs


def plain(steps, given, takes=()):
    return ("g", len(given), ((takes, tuple(steps), ("give", given)),))


class FoldingTest(unittest.TestCase):
    def test_example(self):
        self.assertEqual(due_folds(SIX), (("number", 2, 6), ("number", 3, 6), ("same", 3, 2)))
        self.assertEqual(fold_deeds(TWO), (("same", 2, 1),))
        self.assertEqual(fold_deeds(LOOP), ())
        self.assertEqual(folded(SIX)[2][0][1][3:], (
            ((2,), "number", (), 6), ((3,), "number", (), 6), ((4,), "number", (), 0)))

    def test_number_deeds(self):
        for operation in oracles.OPERATIONS:
            graph = plain((((0,), "number", (), 9), ((1,), "number", (), 4), ((2,), operation, (0, 1), 0)), (2,))
            word = oracles.worked(operation, 9, 4)
            self.assertIn(("number", 2, word), due_folds(graph))
            self.assertEqual(folded(graph)[2][0][1][2], ((2,), "number", (), word))

    def test_a_fault_is_kept(self):
        for operation in ("div", "rem"):
            graph = plain((((0,), "number", (), 0), ((1,), "number", (), 4), ((2,), operation, (1, 0), 3)), (2,))
            self.assertEqual([due_folds(graph), folded(graph), fold_deeds(graph)], [(), graph, ()])

    def test_a_number_deed_needs_no_reading(self):
        graph = plain((((0,), "number", (), 7), ((1,), "add", (0, 0), 0)), ())
        self.assertEqual(due_folds(graph), (("number", 1, 14),))
        self.assertEqual(folded(graph), plain((((0,), "number", (), 7), ((1,), "number", (), 14)), ()))

    def test_same_needs_a_reading(self):
        graph = plain((((1,), "copy", (0,), 0), ((2,), "add", (0, 0), 0), ((3,), "add", (0, 0), 0)), (0,), (0,))
        self.assertEqual(due_folds(graph), ())

    def test_a_copy_of_anything(self):
        self.assertEqual(folded(TWO)[2][0][1][2:], (((2,), "copy", (1,), 0), ((3,), "add", (1, 0), 0)))
        graph = plain((((1,), "copy", (0,), 0), ((2,), "copy", (1,), 0)), (2,), (0,))
        self.assertEqual(due_folds(graph), (("same", 1, 0), ("same", 2, 1)))
        self.assertEqual(folded(graph), plain((((1,), "copy", (0,), 0), ((2,), "copy", (0,), 0)), (0,), (0,)))

    def test_twice_with_unlike_notes(self):
        graph = plain((((2,), "div", (0, 1), 0), ((3,), "div", (0, 1), 1), ((4,), "rem", (0, 1), 2)), (2, 3, 4), (0, 1))
        self.assertEqual(due_folds(graph), (("same", 3, 2),))
        self.assertEqual(folded(graph)[2][0][2], ("give", (2, 2, 4)))

    def test_reads_count_in_their_order(self):
        graph = plain((((2,), "add", (0, 1), 0), ((3,), "add", (1, 0), 0)), (2, 3), (0, 1))
        self.assertEqual(due_folds(graph), ())

    def test_numbers_of_one_word(self):
        graph = plain((((0,), "number", (), 7), ((1,), "number", (), 7), ((2,), "number", (), 7)), (1, 2))
        self.assertEqual(due_folds(graph), (("same", 1, 0), ("same", 2, 0), ("same", 2, 1)))
        self.assertEqual(folded(graph)[2][0][2], ("give", (0, 0)))

    def test_copies_and_calls_are_not_twice(self):
        graph = plain((((1,), "call", (0,), ("f", 0)), ((2,), "call", (0,), ("f", 0))), (1, 2), (0,))
        self.assertEqual(due_folds(graph), ())
        self.assertEqual(due_folds(FAR), ())

    def test_only_a_dominating_step_counts(self):
        graph = ("g", 1, (((0,), (), ("by", 0, 1, 2)), ((), (((1,), "number", (), 3),), ("to", 3, (1,))),
                          ((), (((2,), "number", (), 3),), ("to", 3, (2,))), ((3,), (((4,), "number", (), 3),), ("give", (3,)))))
        self.assertEqual(due_folds(graph), ())

    def test_takes(self):
        looped = ("g", 1, (((0,), (), ("to", 1, (0,))), ((1,), (BEAT,), ("by", 1, 2, 3)), ((), (), ("to", 1, (1,))),
                           ((), (), ("give", (1,)))))
        self.assertEqual(due_folds(looped), (("same", 1, 0),))
        self.assertEqual(folded(looped)[2], (((0,), (), ("to", 1, (0,))), ((1,), (BEAT,), ("by", 0, 2, 3)),
                                            ((), (), ("to", 1, (0,))), ((), (), ("give", (0,)))))

    def test_a_take_that_is_only_handed_to_itself(self):
        graph = ("g", 0, (((0,), (), ("to", 1, (0,))), ((1,), (BEAT,), ("by", 0, 2, 3)), ((), (), ("to", 1, (1,))),
                          ((), (), ("give", ()))))
        self.assertEqual(due_folds(graph), (("same", 1, 0),))

    def test_the_same_mark_for_a_take_from_everywhere(self):
        graph = ("g", 1, (((0,), (), ("by", 0, 1, 2)), ((), (), ("to", 3, (0,))), ((), (), ("to", 3, (0,))),
                          ((1,), (), ("give", (1,)))))
        self.assertEqual(fold_deeds(graph), (("same", 1, 0),))
        self.assertEqual(due_folds(PICK), ())

    def test_takes_of_block_0_stay(self):
        self.assertEqual(due_folds(ONE), ())

    def test_a_later_deed_makes_an_earlier_one_due(self):
        graph = ("g", 1, (((0,), (((9,), "copy", (0,), 0),), ("to", 1, (0,))), ((1,), (BEAT,), ("by", 1, 2, 3)),
                          ((), (), ("to", 1, (9,))), ((), (), ("give", (1,)))))
        self.assertEqual(due_folds(graph), (("same", 9, 0),))
        self.assertEqual(folded(graph)[2][3], ((), (), ("give", (0,))))

    def test_random_graphs(self):
        for few in (False, True):
            for number, graph in enumerate(settled_graphs(80, seed=20 + few, few_words=few)):
                self.assertEqual(due_folds(graph), oracles.due_folds(graph))
                behind = folded(graph)
                self.assertEqual(behind, oracles.folded(graph, random.Random(number).choice))
                self.assertEqual(behind, oracles.folded(graph, lambda due: due[0]))
                deeds = fold_deeds(graph)
                self.assertIsInstance(deeds, tuple)
                self.assertTrue(all(deed[0] in ("number", "same") for deed in deeds))
                self.assertEqual(oracles.all_done(graph, deeds), behind)
                self.assertEqual([folded(behind), due_folds(behind)], [behind, ()])

    def test_outcomes_stay(self):
        for graph in settled_graphs(60, seed=23, calls=False, few_words=True):
            for args in ((0, 1, 2), (5, 5, 5), (65535, 3, 0)):
                args = args[:len(graph[2][0][0])]
                self.assertEqual(oracles.run_settled(folded(graph), args, 20), oracles.run_settled(graph, args, 20))

    def test_by_name(self):
        self.assertEqual([due_folds(graph=ONE), folded(graph=ONE), fold_deeds(graph=ONE)], [(), ONE, ()])


if __name__ == "__main__":
    unittest.main()
