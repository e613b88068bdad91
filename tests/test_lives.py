import unittest

from linkneed.dropping import dropped
from linkneed.folding import folded
from linkneed.lives import alive_at, awaited_at, crowd_at, crowds_of
from linkneed.needing import fullest_spot, own_need
from tests import oracles
from tests.checks import refusal, unusable
from tests.samples import BEAT, FAR, LOOP, ODD_VALUES, ONE, PAIR, PICK, SIX, TWO, settled_graphs

ENDLESS = ("g", 5, (((), (), ("to", 1, ())), ((), (BEAT,), ("to", 1, ()))))
NO_NUMBERS = [thing for thing in ODD_VALUES if thing != 0 or thing is False]


class LivesTest(unittest.TestCase):
    def test_example(self):
        self.assertEqual([awaited_at(LOOP, 2, 1), alive_at(LOOP, 2, 2), crowd_at(LOOP, 4, 0), crowds_of(TWO)],
                         [(2, 4), (2, 4, 5), 1, ((1, 1, 2, 2, 1),)])

    def test_behind_the_call_of_two(self):
        self.assertEqual([alive_at(TWO, 0, 2), own_need(TWO), own_need(ONE)], [(0, 1), 2, 1])
        self.assertEqual(alive_at(LOOP, 2, 2), (2, 4, 5))
        # The copy, read by nothing once folded, is alive beside what the call makes.
        self.assertEqual([own_need(folded(TWO)), own_need(dropped(folded(TWO)))], [3, 2])

    def test_loop(self):
        self.assertEqual([awaited_at(LOOP, block, 0) for block in range(5)], [(0,), (2, 3), (2, 3), (3,), ()])
        self.assertEqual([awaited_at(LOOP, 0, 2), awaited_at(LOOP, 2, 3)], [(0, 1), (4, 6)])
        self.assertEqual(crowds_of(LOOP), ((1, 1, 2), (2, 2), (2, 2, 3, 2), (1,)))

    def test_what_is_made_is_alive_awaited_or_not(self):
        graph = ("g", 0, (((0, 1), (((3, 2), "call", (1,), ("f", 0)),), ("give", ())),))
        self.assertEqual([awaited_at(graph, 0, 0), alive_at(graph, 0, 0)], [(1,), (0, 1)])
        self.assertEqual([awaited_at(graph, 0, 1), alive_at(graph, 0, 1)], [(), (2, 3)])
        self.assertEqual(crowds_of(graph), ((2, 2),))

    def test_behind_the_giving(self):
        self.assertEqual([awaited_at(PAIR, 1, 0), crowd_at(PAIR, 1, 0), crowds_of(PAIR)], [(), 2, ((1,),)])
        self.assertEqual([crowd_at(ENDLESS, 2, 0), own_need(ENDLESS), fullest_spot(ENDLESS)], [5, 5, (2, 0)])

    def test_random_graphs(self):
        for graph in settled_graphs(50, seed=71):
            crowds = []
            for number, (_, steps, _) in enumerate(graph[2]):
                for index in range(len(steps) + 1):
                    alive = oracles.alive(graph, number, index)
                    self.assertEqual(awaited_at(graph, number, index), oracles.awaited(graph, number, index))
                    self.assertEqual(alive_at(graph, number, index), alive)
                    self.assertEqual(crowd_at(graph, number, index), len(alive))
                crowds.append(tuple(len(oracles.alive(graph, number, index)) for index in range(len(steps) + 1)))
            self.assertEqual(crowds_of(graph), tuple(crowds))
            many = len(graph[2])
            self.assertEqual([awaited_at(graph, many, 0), crowd_at(graph, many, 0)], [(), graph[1]])

    def test_refused_blocks(self):
        for thing in NO_NUMBERS + [5, 6]:
            for function in (awaited_at, alive_at, crowd_at):
                self.assertEqual(refusal(function, LOOP, thing, thing), unusable("block"))
        self.assertEqual(refusal(alive_at, LOOP, 4, 0), unusable("block"))

    def test_refused_indexes(self):
        for thing in NO_NUMBERS + [4, 5]:
            for function in (awaited_at, alive_at, crowd_at):
                self.assertEqual(refusal(function, LOOP, 2, thing), unusable("index"))
        for thing in NO_NUMBERS + [1]:
            for function in (awaited_at, crowd_at):
                self.assertEqual(refusal(function, LOOP, 4, thing), unusable("index"))
        self.assertEqual(refusal(alive_at, LOOP, 3, 1), unusable("index"))

    def test_by_name(self):
        self.assertEqual(awaited_at(index=1, block=2, graph=LOOP), (2, 4))
        self.assertEqual(alive_at(index=2, block=2, graph=LOOP), (2, 4, 5))
        self.assertEqual(crowd_at(index=0, block=4, graph=LOOP), 1)
        self.assertEqual(crowds_of(graph=PAIR), ((1,),))


class NeedingTest(unittest.TestCase):
    def test_example(self):
        self.assertEqual([own_need(LOOP), fullest_spot(LOOP), own_need(PAIR), fullest_spot(PAIR)], [3, (2, 2), 2, (1, 0)])

    def test_document_graphs(self):
        self.assertEqual([own_need(graph) for graph in (ONE, TWO, SIX, PICK, FAR)], [1, 2, 3, 2, 3])
        self.assertEqual([fullest_spot(graph) for graph in (ONE, TWO, PICK, FAR)], [(0, 0), (0, 2), (0, 2), (0, 0)])

    def test_nothing_alive(self):
        graph = ("g", 0, (((), (BEAT,), ("give", ())),))
        self.assertEqual([own_need(graph), fullest_spot(graph)], [0, (0, 0)])

    def test_a_spot_of_a_block_comes_ahead_of_the_giving(self):
        graph = ("g", 2, (((0, 1), (), ("give", (0, 0))),))
        self.assertEqual([own_need(graph), fullest_spot(graph)], [2, (0, 0)])

    def test_random_graphs(self):
        for graph in settled_graphs(60, seed=72):
            crowds = {spot: len(oracles.alive(graph, *spot)) for spot in oracles.spots(graph)}
            crowds[(len(graph[2]), 0)] = graph[1]
            self.assertEqual(own_need(graph), max(crowds.values()))
            self.assertEqual(fullest_spot(graph), min(spot for spot in crowds if crowds[spot] == max(crowds.values())))

    def test_by_name(self):
        self.assertEqual([own_need(graph=PAIR), fullest_spot(graph=PAIR)], [2, (1, 0)])


if __name__ == "__main__":
    unittest.main()
