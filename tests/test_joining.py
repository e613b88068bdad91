import random
import unittest
from itertools import combinations

from linkneed.graphing import graph_of
from linkneed.joining import joins_of, lets_placing
from linkneed.settling import settled
from tests import oracles
from tests.checks import refusal
from tests.samples import BEAT, DOWN, ODD_VALUES, ONE
from tests.test_settling import NOWHERE, is_right, least_blocks, loose_graphs, readings_of
from tests.unitsamples import bound_units

LOOSE = graph_of(DOWN, "down")


def invalid(word, at):
    return ("InvalidPaper", {"word": word, "at": at})


def first_lacking(graph, placing):
    """The first place at which a mark lacks the one last making; None if there is none."""
    found = []
    for mark in oracles.marks_of(graph):
        placed = {block for block, one in placing if one == mark}
        for (block, index), makings in readings_of(graph, mark, placed).items():
            if len(makings) != 1 or NOWHERE in makings:
                found.append((block, len(graph[2][block][1]) if index == "end" else index))
    return min(found) if found else None


class JoiningTest(unittest.TestCase):
    def test_examples(self):
        self.assertEqual(joins_of(LOOSE), ((1, 0),))
        self.assertEqual(refusal(lets_placing, LOOSE, ()), invalid("reading", (1, 1)))
        self.assertEqual(lets_placing(LOOSE, joins_of(LOOSE)), 1)

    def test_no_joins(self):
        self.assertEqual([joins_of(ONE), lets_placing(ONE, ())], [(), 0])

    def test_pairs_ascend(self):
        # Both marks are made anew in a loop, and meet there.
        graph = ("g", 2, (((4, 2), (), ("to", 1, ())), ((), (BEAT,), ("by", 2, 2, 3)),
                          ((), (((2,), "copy", (4,), 0), ((4,), "copy", (2,), 0)), ("to", 1, ())), ((), (), ("give", (4, 2)))))
        self.assertEqual(joins_of(graph), ((1, 2), (1, 4)))
        self.assertEqual(lets_placing(graph, ((1, 2), (1, 4))), 2)
        self.assertEqual(refusal(lets_placing, graph, ((1, 2),)), invalid("reading", (2, 0)))
        self.assertEqual(refusal(lets_placing, graph, ((1, 4),)), invalid("reading", (1, 1)))

    def test_more_than_need_be(self):
        self.assertEqual(lets_placing(LOOSE, ((1, 0), (2, 0), (3, 0))), 3)
        # Mark 1 is first made in block 2, so that the loop's head finds none on the way from block 0.
        self.assertEqual(refusal(lets_placing, LOOSE, ((1, 0), (1, 1))), invalid("reading", (0, 1)))
        self.assertEqual(refusal(lets_placing, LOOSE, ((1, 0), (3, 1))), invalid("reading", (1, 1)))

    def test_what_a_named_block_takes_is_asked_at_the_end(self):
        # Nothing reads mark 1 behind the blocks that make it, but the block paired with it asks for one making.
        def makes(word):
            return ((), (((1,), "number", (), word),), ("to", 3, ()))
        graph = ("g", 1, (((0,), (), ("by", 0, 1, 2)), makes(5), makes(6), ((), (), ("to", 4, ())), ((), (), ("give", (0,)))))
        self.assertEqual(lets_placing(graph, ()), 0)
        self.assertEqual(lets_placing(graph, ((3, 1), (4, 1))), 2)
        self.assertEqual(refusal(lets_placing, graph, ((4, 1),)), invalid("reading", (3, 0)))
        self.assertEqual(refusal(lets_placing, graph, ((1, 1), (3, 1))), invalid("reading", (0, 0)))

    def test_a_step_reads_ahead_of_making(self):
        graph = ("g", 1, (((0,), (), ("to", 1, ())), ((), (BEAT, ((0,), "copy", (0,), 0)), ("by", 0, 2, 3)),
                          ((), (), ("to", 1, ())), ((), (), ("give", (0,)))))
        self.assertEqual(refusal(lets_placing, graph, ()), invalid("reading", (1, 1)))
        self.assertEqual(lets_placing(graph, ((1, 0),)), 1)

    def test_the_first_place_by_block_and_index(self):
        graph = ("g", 1, (((0, 1), (), ("by", 0, 3, 2)), ((), (((), "tell", (1,), 0), ((), "tell", (0,), 0)), ("give", (0,))),
                          ((), (((0,), "number", (), 1),), ("to", 1, ())), ((), (((1,), "number", (), 1),), ("to", 1, ()))))
        self.assertEqual(refusal(lets_placing, graph, ()), invalid("reading", (1, 0)))
        self.assertEqual(refusal(lets_placing, graph, ((1, 1),)), invalid("reading", (1, 1)))
        self.assertEqual(refusal(lets_placing, graph, ((1, 0),)), invalid("reading", (1, 0)))
        self.assertEqual(lets_placing(graph, ((1, 0), (1, 1))), 2)

    def test_random_graphs_by_trying_each_placing(self):
        for graph in loose_graphs(60, 11, 3, 7):
            placed = {mark: least_blocks(graph, mark) for mark in range(3)}
            least = tuple(sorted((block, mark) for mark in range(3) for block in placed[mark]))
            self.assertEqual(joins_of(graph), least)
            self.assertEqual(lets_placing(graph, least), len(least))
            for mark in range(3):
                others = {pair for pair in least if pair[1] != mark}
                for many in range(len(graph[2])):
                    for some in combinations(range(1, len(graph[2])), many):
                        thing = tuple(sorted(others | {(block, mark) for block in some}))
                        if is_right(graph, mark, set(some)):
                            self.assertEqual(lets_placing(graph, thing), len(thing))
                            self.assertTrue(set(least) <= set(thing))
                        else:
                            self.assertEqual(refusal(lets_placing, graph, thing), invalid("reading", first_lacking(graph, thing)))

    def test_random_placings(self):
        kept = 0
        for number, graph in enumerate(loose_graphs(80, 12, 5, 14)):
            source = random.Random(number)
            least = joins_of(graph)
            every = [(block, mark) for block in range(1, len(graph[2])) for mark in oracles.marks_of(graph)]
            for _ in range(6):
                some = set(source.sample(every, min(len(every), source.randrange(4))))
                thing = tuple(sorted(source.choice((set(least) | some, set(least) ^ some, some))))
                place = first_lacking(graph, thing)
                if place is None:
                    kept += 1
                    self.assertEqual(lets_placing(graph, thing), len(thing))
                    self.assertTrue(set(least) <= set(thing))
                else:
                    self.assertEqual(refusal(lets_placing, graph, thing), invalid("reading", place))
        self.assertGreater(kept, 40)

    def test_settled_graphs_take_just_these(self):
        for units in bound_units(40, seed=91):
            for unit in units:
                for function in unit[3]:
                    loose = graph_of(unit, function[0])
                    joins = joins_of(loose)
                    self.assertEqual(lets_placing(loose, joins), len(joins))
                    counts = [sum(block == number for block, _ in joins) for number in range(len(loose[2]))]
                    self.assertEqual([len(block[0]) for block in settled(loose)[2]][1:], counts[1:])

    def test_papers(self):
        for thing in [thing for thing in ODD_VALUES if thing != ()] + [
                [(1, 0)], ((1, 0), (1, 0)), ((2, 0), (1, 0)), ((1, 1), (1, 0)), ((1,),), ((1, 0, 0),), ([1, 0],), ((1, -1),),
                ((True, 0),), ((1, False),), ((1, None),), ((1, 0), None), (1, 0)]:
            self.assertEqual(refusal(lets_placing, LOOSE, thing), invalid("set", -1))
        self.assertEqual(refusal(lets_placing, LOOSE, ((0, 0),)), invalid("block", 0))
        self.assertEqual(refusal(lets_placing, LOOSE, ((1, 0), (4, 99))), invalid("block", 1))
        self.assertEqual(refusal(lets_placing, LOOSE, ((1, 0), (1, 3))), invalid("mark", 1))
        self.assertEqual(refusal(lets_placing, LOOSE, ((1, 9), (7, 0))), invalid("mark", 0))
        self.assertEqual(lets_placing(LOOSE, ((1, 0), (2, 0))), 2)

    def test_by_name(self):
        self.assertEqual(joins_of(loose=LOOSE), ((1, 0),))
        self.assertEqual(lets_placing(thing=((1, 0),), loose=LOOSE), 1)


if __name__ == "__main__":
    unittest.main()
