import unittest

from linkneed.edging import edge_pairs
from linkneed.standing import register_at, stands_of
from tests import oracles
from tests.checks import refusal, unusable
from tests.samples import BEAT, FAR, LOOP, ODD_VALUES, ONE, PAIR, PICK, SIX, TWO, settled_graphs

# Behind the call the marks 1 and 4 are across it: 1 stays, 4 moves down; two words come back.
MOVED = ("moved", 1, (((0, 1, 2, 3, 4), (
    ((5, 6), "call", (3, 0), ("f", 0)), ((7,), "add", (5, 1), 0), ((8,), "add", (7, 4), 0), ((9,), "add", (8, 6), 0)),
    ("give", (9,))),))


class StandingTest(unittest.TestCase):
    def test_example(self):
        self.assertEqual(stands_of(LOOP), (((0,), (0,), (0, 1)), ((2, 3), (2, 3)), (
            (2, 3), (2, 4), (2, 4, 5), (6, 4)), ((None, 3),)))
        self.assertEqual(stands_of(FAR), (((0, 1, 2), (2, 3), (4,)),))
        self.assertIsNone(register_at(FAR, 0, 1, 0))

    def test_calls(self):
        self.assertEqual(stands_of(MOVED), (((0, 1, 2, 3, 4), (4, 1, 5, 6), (4, 7, None, 6), (8, None, None, 6), (9,)),))
        self.assertEqual(stands_of(TWO), (((0,), (0,), (0, 1), (0, 2), (3,)),))

    def test_nothing_across_a_call(self):
        graph = ("g", 2, (((0, 1), (BEAT, ((3, 2), "call", (1, 1), ("f", 0))), ("give", (2, 3))),))
        self.assertEqual(stands_of(graph), (((0, 1), (None, 1), (3, 2)),))

    def test_a_call_that_makes_nothing(self):
        graph = ("g", 1, (((0, 1), (((), "call", (), ("f", 0)),), ("give", (1,))),))
        self.assertEqual(stands_of(graph), (((0, 1), (1,)),))

    def test_unread_marks_stand_where_they_are_made(self):
        graph = ("g", 0, (((0,), (((1,), "number", (), 5), ((2,), "number", (), 6)), ("to", 1, (2, 2))),
                          ((4, 3), (BEAT,), ("give", ()))))
        self.assertEqual(stands_of(graph), (((0,), (1,), (2,)), ((4, 3), ())))

    def test_empty_stands(self):
        self.assertEqual(stands_of(("g", 0, (((), (BEAT,), ("give", ())),))), (((), ()),))
        self.assertEqual(stands_of(PAIR), (((0,),),))

    def test_random_graphs(self):
        for seed in range(3):
            for graph in settled_graphs(50, seed=seed, most_blocks=4 + 3 * seed, most_steps=3 + 2 * seed):
                self.assertEqual(stands_of(graph), oracles.stands_of(graph))

    def test_as_many_registers_as_the_greatest_crowd(self):
        for graph in settled_graphs(60, seed=7) + [LOOP, TWO, FAR, SIX, PICK, MOVED]:
            crowds = [len(oracles.alive(graph, block, index)) for block, index in oracles.spots(graph)]
            self.assertEqual(max(len(stand) for stands in stands_of(graph) for stand in stands), max(crowds))

    def test_just_the_alive_marks_stand(self):
        for graph in settled_graphs(40, seed=8):
            table = stands_of(graph)
            for block, index in oracles.spots(graph):
                stand = [mark for mark in table[block][index] if mark is not None]
                self.assertEqual(tuple(sorted(stand)), oracles.alive(graph, block, index))

    def test_one_register_for_what_is_across_no_call(self):
        for graph in settled_graphs(60, seed=9):
            crossing = {mark for number, block in enumerate(graph[2]) for index, step in enumerate(block[1])
                        if step[1] == "call" for mark in oracles.across(graph, number, index)}
            homes = {}
            for stands in stands_of(graph):
                for stand in stands:
                    for place, mark in enumerate(stand):
                        if mark is not None and mark not in crossing:
                            self.assertEqual(homes.setdefault(mark, place), place)

    def test_registers(self):
        table = stands_of(LOOP)
        for block, index in oracles.spots(LOOP):
            for mark in range(8):
                stand = table[block][index]
                expected = stand.index(mark) if mark in stand else None
                self.assertEqual(register_at(LOOP, block, index, mark), expected)
        self.assertEqual(register_at(index=1, one=4, block=2, graph=LOOP), 1)
        self.assertIsNone(register_at(LOOP, 0, 2, True))

    def test_refusals(self):
        for thing in [thing for thing in ODD_VALUES if thing != 0 or thing is False] + [4, 5]:
            self.assertEqual(refusal(register_at, LOOP, thing, thing, 0), unusable("block"))
            self.assertEqual(refusal(register_at, LOOP, 2, thing if thing != 4 else 99, 0), unusable("index"))
        self.assertEqual(refusal(register_at, LOOP, 4, 0, 3), unusable("block"))
        self.assertEqual(refusal(register_at, LOOP, 3, 1, 3), unusable("index"))

    def test_by_name(self):
        self.assertEqual(stands_of(graph=ONE), stands_of(ONE))


class EdgingTest(unittest.TestCase):
    def test_loop(self):
        self.assertEqual(edge_pairs(LOOP, 0), ((0, 0), (1, 1)))
        self.assertEqual(edge_pairs(LOOP, 2), ((0, 0), (1, 1)))
        self.assertEqual([edge_pairs(LOOP, 1), edge_pairs(LOOP, 3)], [(), ()])

    def test_what_is_kept_and_what_is_handed(self):
        self.assertEqual(stands_of(PICK), (((0,), (0,), (0, 1)), ((None, 1),), ((0,),), ((2,),)))
        self.assertEqual([edge_pairs(PICK, 1), edge_pairs(PICK, 2)], [((0, 1),), ((0, 0),)])

    def test_kept_marks_are_among_the_pairs(self):
        graph = ("g", 2, (((0, 1), (), ("to", 1, (1, 1))), ((2, 3), (BEAT, ((4,), "add", (2, 3), 0)), ("give", (4, 0)))))
        self.assertEqual(stands_of(graph)[1][0], (0, 2, 3))
        self.assertEqual(edge_pairs(graph, 0), ((0, 0), (1, 1), (2, 1)))

    def test_random_graphs(self):
        for graph in settled_graphs(60, seed=11):
            table = stands_of(graph)
            for number, (_, _, ending) in enumerate(graph[2]):
                pairs = edge_pairs(graph, number)
                self.assertEqual(pairs, tuple(sorted(set(pairs))))
                if ending[0] != "to":
                    self.assertEqual(pairs, ())
                    continue
                takes = graph[2][ending[1]][0]
                moved = {to: table[number][-1][source] for to, source in pairs}
                names = dict(zip(takes, ending[2]))
                expected = {place: names.get(mark, mark) for place, mark in enumerate(table[ending[1]][0])
                            if mark is not None}
                self.assertEqual(moved, expected)

    def test_refusals(self):
        for thing in [thing for thing in ODD_VALUES if thing != 0 or thing is False] + [4]:
            self.assertEqual(refusal(edge_pairs, LOOP, thing), unusable("block"))

    def test_by_name(self):
        self.assertEqual(edge_pairs(block=0, graph=LOOP), ((0, 0), (1, 1)))


if __name__ == "__main__":
    unittest.main()
