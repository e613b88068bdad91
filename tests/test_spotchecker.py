import unittest

from linkneed.spotchecker import lets_spot
from tests import oracles
from tests.checks import refusal, same_kind
from tests.samples import LOOP, ODD_VALUES, PAIR, TWO, settled_graphs


def invalid(word, at=-1):
    return ("InvalidPaper", {"word": word, "at": at})


class SpotTest(unittest.TestCase):
    def test_spots(self):
        self.assertEqual(lets_spot(LOOP, (2, 2, (2, 4, 5))), 3)
        self.assertEqual(lets_spot(LOOP, (2, 1, (2, 4))), 2)
        self.assertTrue(same_kind(lets_spot(("g", 0, (((), (), ("give", ())),)), (0, 0, ())), 0))

    def test_behind_the_giving(self):
        self.assertEqual([lets_spot(LOOP, (4, 0, ())), lets_spot(PAIR, (1, 0, ()))], [1, 2])
        self.assertEqual(refusal(lets_spot, PAIR, (1, 0, (0,))), invalid("mark", 0))
        self.assertEqual(refusal(lets_spot, PAIR, (1, 1, None)), invalid("index"))
        self.assertEqual(refusal(lets_spot, PAIR, (1, 0, None)), invalid("marks"))

    def test_random_graphs(self):
        for graph in settled_graphs(40, seed=101):
            for block, index in oracles.spots(graph):
                alive = oracles.alive(graph, block, index)
                self.assertEqual(lets_spot(graph, (block, index, alive)), len(alive))
                for at, mark in enumerate(alive):
                    fewer = alive[:at] + alive[at + 1:]
                    self.assertEqual(refusal(lets_spot, graph, (block, index, fewer)), invalid("many"))
                others = [mark for mark in oracles.marks_of(graph) + [9999] if mark not in alive]
                for mark in others[:3] + others[-1:]:
                    more = tuple(sorted(alive + (mark,)))
                    self.assertEqual(refusal(lets_spot, graph, (block, index, more)), invalid("mark", more.index(mark)))
            self.assertEqual(lets_spot(graph, (len(graph[2]), 0, ())), graph[1])

    def test_forms(self):
        for thing in ODD_VALUES + ((0, 0), (0, 0, (0,), 0), [0, 0, (0,)], ((0, 0, (0,)),)):
            self.assertEqual(refusal(lets_spot, TWO, thing), invalid("form"))

    def test_blocks_come_ahead_of_indexes(self):
        for thing in [thing for thing in ODD_VALUES if thing not in (0, 1) or isinstance(thing, bool)] + [2, 9]:
            self.assertEqual(refusal(lets_spot, TWO, (thing, None, None)), invalid("block"))
        for thing in [thing for thing in ODD_VALUES if thing not in (0, 1) or isinstance(thing, bool)] + [5, 9]:
            self.assertEqual(refusal(lets_spot, TWO, (0, thing, None)), invalid("index"))
        for thing in [thing for thing in ODD_VALUES if thing != 0 or isinstance(thing, bool)] + [1]:
            self.assertEqual(refusal(lets_spot, TWO, (1, thing, None)), invalid("index"))

    def test_marks(self):
        for thing in [thing for thing in ODD_VALUES if thing not in ((), (0,))] + [
                [0, 1], (1, 0), (0, 0, 1), (0, True), (False, 1), (0, -1), (0, 1.5), (0, None), ((0,), 1)]:
            self.assertEqual(refusal(lets_spot, TWO, (0, 2, thing)), invalid("marks"))
        self.assertEqual(lets_spot(TWO, (0, 2, (0, 1))), 2)
        self.assertEqual(refusal(lets_spot, TWO, (0, 2, ())), invalid("many"))
        self.assertEqual(refusal(lets_spot, TWO, (0, 2, (1, 2))), invalid("mark", 1))
        self.assertEqual(refusal(lets_spot, TWO, (0, 2, (2, 3))), invalid("mark", 0))

    def test_by_name(self):
        self.assertEqual(lets_spot(thing=(2, 1, (2, 4)), graph=LOOP), 2)


if __name__ == "__main__":
    unittest.main()
