import unittest

from linkneed.edging import edge_pairs
from linkneed.lives import crowd_at, crowds_of
from linkneed.needing import own_need
from linkneed.standchecker import lets_stands
from linkneed.standclasses import Stands, Still
from linkneed.standing import register_at, stands_of
from linkneed.transferring import transfer_rows
from tests import oracles
from tests.checks import refusal, same_kind, unusable
from tests.samples import FAR, LOOP, ODD_VALUES, ONE, PAIR, PICK, SIX, TWO, settled_graphs
from tests.test_graphclasses import UNMADE

NO_ZERO = [thing for thing in ODD_VALUES if thing != 0 or thing is False]


class StandsTest(unittest.TestCase):
    def test_example(self):
        one = Still(LOOP)
        self.assertEqual([one[2, 3], one(4), one.moves(2), one.register_at(3, block=1), one.marks_in(1), one == Stands(LOOP)],
                         [(6, 4), 1, (), 1, (1, 3, 4), True])

    def test_random_graphs(self):
        for graph in settled_graphs(40, seed=215):
            one = Stands(graph)
            self.assertEqual([one.graph_now, one.own_now, list(one)], [graph, own_need(graph), list(stands_of(graph))])
            crowds = crowds_of(graph)
            for block, index in oracles.spots(graph):
                self.assertTrue(same_kind(one[block, index], stands_of(graph)[block][index]))
                self.assertEqual([one(block, index), one(block=block, index=index)], [crowd_at(graph, block, index)] * 2)
                for mark in oracles.marks_of(graph):
                    self.assertEqual(one.register_at(mark, block=block, index=index), register_at(graph, block, index, mark))
            self.assertEqual(one(len(graph[2])), graph[1])
            for block in range(len(graph[2])):
                self.assertEqual([one.moves(block), one.most(block)], [transfer_rows(edge_pairs(graph, block)), max(crowds[block])])
            self.assertEqual(one.most(*range(len(graph[2]))), max(max(some) for some in crowds))
            self.assertEqual([mark for mark in range(200) if mark in one], oracles.marks_of(graph))

    def test_moves(self):
        self.assertEqual([Stands(PICK).moves(1), Stands(PICK).moves(2), Stands(PICK).moves(block=0)], [(("move", 0, 1),), (), ()])

    def test_most(self):
        one = Stands(LOOP)
        self.assertTrue(same_kind([one.most(), one.most(3), one.most(3, 1), one.most(0, 1, 2, 3), one.most(2, 2)], [0, 1, 2, 3, 3]))
        for thing in NO_ZERO + [4, 5]:
            if thing != 1 or thing is True:
                self.assertEqual(refusal(one.most, 2, thing), unusable("blocks"))
                self.assertEqual(refusal(one.most, thing), unusable("blocks"))

    def test_as_a_container(self):
        one = Stands(TWO)
        self.assertEqual([mark in one for mark in range(6)], [True] * 4 + [False] * 2)
        for thing in (None, True, False, "0", (0,), [0], -1, 10 ** 59):
            self.assertIs(thing in one, False)

    def test_register_at(self):
        one = Stands(FAR)
        self.assertEqual([one.register_at(0, block=0), one.register_at(0, block=0, index=1), one.register_at(mark=2, block=0, index=1)],
                         [0, None, 0])
        self.assertEqual(refusal(one.register_at, 0, block=1, index=9), unusable("block"))
        self.assertEqual(refusal(one.register_at, 0, block=0, index=3), unusable("index"))
        self.assertRaises(TypeError, one.register_at, 0, 0)

    def test_refused_spots(self):
        one = Stands(LOOP)
        for thing in NO_ZERO + [5, 10]:
            if thing != 1 or thing is True:
                self.assertEqual(refusal(one.__getitem__, (thing, thing)), unusable("block"))
                self.assertEqual(refusal(one, thing), unusable("block"))
                self.assertEqual(refusal(one.moves, thing), unusable("block"))
                self.assertEqual(refusal(one.__getitem__, (3, thing)), unusable("index"))
                self.assertEqual(refusal(one, 3, thing), unusable("index"))
        self.assertEqual(refusal(one.__getitem__, (4, 0)), unusable("block"))
        self.assertEqual(refusal(one.moves, 4), unusable("block"))
        self.assertEqual(refusal(one, 4, 1), unusable("index"))
        self.assertEqual(refusal(one, 1, 2), unusable("index"))

    def test_registers_by(self):
        for maker in (Stands, Still, Stands(ONE)):
            self.assertEqual(maker.registers_by(LOOP, stands_of(LOOP)), 3)
            self.assertEqual(maker.registers_by(thing=(((None, 0),),), graph=PAIR), lets_stands(PAIR, (((None, 0),),)))
            self.assertEqual(refusal(maker.registers_by, LOOP, ()), ("InvalidPaper", {"word": "table", "at": -1}))

    def test_equality(self):
        self.assertTrue(Stands(LOOP) == Still(LOOP) and Still(LOOP) == Stands(LOOP) and not Stands(LOOP) != Still(LOOP))
        self.assertFalse(Stands(LOOP) == Stands(SIX))
        for thing in (None, LOOP, stands_of(LOOP), True):
            self.assertFalse(Stands(LOOP) == thing)

    def test_refusals(self):
        for thing in ODD_VALUES + (UNMADE, list(LOOP)):
            self.assertEqual(refusal(Stands, thing), unusable("graph"))
            self.assertEqual(refusal(Still, thing), unusable("graph"))
        for graph in (TWO, FAR):
            self.assertEqual(Stands(graph=graph).graph_now, graph)
            self.assertEqual(refusal(Still, graph), unusable("graph"))


class StillTest(unittest.TestCase):
    def test_homes(self):
        one = Still(LOOP)
        self.assertEqual([one.home(mark) for mark in range(7)], [0, 1, 0, 1, 1, 2, 0])
        self.assertEqual(one.home(mark=5), 2)
        for thing in NO_ZERO + [7, 100]:
            if thing != 1 or thing is True:
                self.assertEqual(refusal(one.home, thing), unusable("mark"))
        self.assertEqual(refusal(one.home, False), unusable("mark"))

    def test_marks_in(self):
        one = Still(graph=LOOP)
        self.assertEqual([one.marks_in(number) for number in range(5)], [(0, 2, 6), (1, 3, 4), (5,), (), ()])
        self.assertEqual([one.marks_in(number=2), one.marks_in(True), one.marks_in(10 ** 40)], [(5,), (), ()])

    def test_random_graphs(self):
        for graph in settled_graphs(40, seed=216, calls=False):
            one = Still(graph)
            self.assertIsInstance(one, Stands)
            marks = oracles.marks_of(graph)
            for block, index in oracles.spots(graph):
                for place, mark in enumerate(one[block, index]):
                    if mark is not None:
                        self.assertEqual(one.home(mark), place)
            for number in range(12):
                self.assertEqual(one.marks_in(number), tuple(mark for mark in marks if one.home(mark) == number))

    def test_only_still(self):
        self.assertFalse(hasattr(Stands(LOOP), "home") or hasattr(Stands(LOOP), "marks_in"))


if __name__ == "__main__":
    unittest.main()
