import random
import unittest

from linkneed.homes import homes_of
from linkneed.needing import own_need
from linkneed.standchecker import lets_stands
from linkneed.standing import stands_of
from tests import oracles
from tests.checks import refusal, same_kind
from tests.samples import BEAT, FAR, LOOP, ODD_VALUES, ONE, PAIR, PICK, SIX, TWO, settled_graphs
from tests.test_standing import MOVED


def invalid(word, at=-1):
    return ("InvalidPaper", {"word": word, "at": at})


def replaced(table, block, index, stand):
    spots = table[block][:index] + (stand,) + table[block][index + 1:]
    return table[:block] + (spots,) + table[block + 1:]


class HomesTest(unittest.TestCase):
    def test_examples(self):
        self.assertEqual(homes_of(TWO), ((1, 1), (2, 1), (3, 0)))
        self.assertEqual(homes_of(LOOP), ((0, 0), (1, 1), (2, 0), (3, 1), (4, 1), (5, 2), (6, 0)))
        self.assertEqual(homes_of(FAR), ((0, 0), (1, 1), (3, 1), (4, 0)))
        self.assertEqual(homes_of(MOVED), ((0, 0), (2, 2), (3, 3), (5, 2), (6, 3), (7, 1), (8, 0), (9, 0)))
        self.assertEqual(homes_of(("g", 0, (((), (BEAT,), ("give", ())),))), ())

    def test_random_graphs(self):
        for graph in settled_graphs(80, seed=211):
            crossing = {mark for number, block in enumerate(graph[2]) for index, step in enumerate(block[1])
                        if step[1] == "call" for mark in oracles.across(graph, number, index)}
            homes = dict(homes_of(graph))
            self.assertTrue(same_kind(homes_of(graph), tuple(sorted(homes.items()))))
            self.assertEqual(sorted(homes), [mark for mark in oracles.marks_of(graph) if mark not in crossing])
            for spots in oracles.stands_of(graph):
                for stand in spots:
                    for place, mark in enumerate(stand):
                        if mark in homes:
                            self.assertEqual(homes[mark], place)

    def test_by_name(self):
        self.assertEqual(homes_of(graph=PICK), homes_of(PICK))


class StandCheckerTest(unittest.TestCase):
    def test_example(self):
        self.assertEqual(refusal(lets_stands, PAIR, (((0, 0),),)), invalid("mark", (0, 0, 1)))

    def test_stands_of_is_let(self):
        for graph in settled_graphs(60, seed=212) + [LOOP, TWO, ONE, FAR, PICK, SIX, PAIR, MOVED]:
            self.assertTrue(same_kind(lets_stands(graph, stands_of(graph)), own_need(graph)))

    def test_any_stands_are_let(self):
        self.assertEqual(lets_stands(PAIR, (((None, None, 0),),)), 3)
        self.assertEqual(lets_stands(PAIR, (((0,),),)), 2)
        self.assertEqual(lets_stands(("g", 0, (((), (BEAT,), ("give", ())),)), (((), ()),)), 0)
        source = random.Random(11)
        for graph in settled_graphs(60, seed=213):
            table = []
            for block, (_, steps, _) in enumerate(graph[2]):
                spots = []
                for index in range(len(steps) + 1):
                    stand = list(oracles.alive(graph, block, index)) + [None] * source.randrange(3)
                    source.shuffle(stand)
                    spots.append(oracles.trimmed(stand))
                table.append(tuple(spots))
            longest = max(len(stand) for spots in table for stand in spots)
            let = lets_stands(graph, tuple(table))
            self.assertEqual(let, max(longest, graph[1]))
            self.assertGreaterEqual(let, own_need(graph))

    def test_tables(self):
        table = stands_of(LOOP)
        for thing in ODD_VALUES + (list(table), table[:3], table + ((),), stands_of(TWO)):
            self.assertEqual(refusal(lets_stands, LOOP, thing), invalid("table"))

    def test_blocks(self):
        table = stands_of(LOOP)
        for block in range(4):
            for thing in [thing for thing in ODD_VALUES if not isinstance(thing, tuple) or len(thing) != len(table[block])] + [
                    list(table[block]), table[block][1:], table[block] + ((),), None]:
                wrong = table[:block] + (thing,) + table[block + 1:]
                self.assertEqual(refusal(lets_stands, LOOP, wrong), invalid("block", block))

    def test_stands(self):
        table = stands_of(LOOP)
        for thing in (None, [0], 0, "0", (True,), (-1,), ("0",), ((0,),), (0, None), (None,), (2, 4, None), (9, 9, None)):
            self.assertEqual(refusal(lets_stands, LOOP, replaced(table, 2, 1, thing)), invalid("stand", (2, 1)))

    def test_marks(self):
        table = stands_of(LOOP)
        for stand, place in (((2, 5), 1), ((5, 2, 4), 0), ((2, 2, 4), 1), ((2, 4, 4), 2), ((2, None, 4, 10 ** 30), 3), ((2, None, 2), 2),
                             ((None, 3), 1)):
            self.assertEqual(refusal(lets_stands, LOOP, replaced(table, 2, 1, stand)), invalid("mark", (2, 1, place)))

    def test_lacking(self):
        table = stands_of(LOOP)
        for stand, mark in (((), 2), ((2,), 4), ((None, 4), 2)):
            self.assertEqual(refusal(lets_stands, LOOP, replaced(table, 2, 1, stand)), invalid("lacking", (2, 1, mark)))

    def test_which_comes_first(self):
        table = stands_of(LOOP)
        early = replaced(table, 0, 2, (0, 9))
        self.assertEqual(refusal(lets_stands, LOOP, early[:1] + (None,) + early[2:]), invalid("mark", (0, 2, 1)))
        self.assertEqual(refusal(lets_stands, LOOP, replaced(table, 0, 1, ())[:2] + (None, None)), invalid("lacking", (0, 1, 0)))
        self.assertEqual(refusal(lets_stands, LOOP, table[:1] + (None, ((),)) + table[3:]), invalid("block", 1))
        two = replaced(replaced(table, 2, 0, (3,)), 2, 1, None)
        self.assertEqual(refusal(lets_stands, LOOP, two), invalid("lacking", (2, 0, 2)))

    def test_broken_tables(self):
        source = random.Random(12)
        for graph in settled_graphs(60, seed=214):
            table = stands_of(graph)
            block = source.randrange(len(graph[2]))
            index = source.randrange(len(table[block]))
            stand = table[block][index]
            filled = [place for place, mark in enumerate(stand) if mark is not None]
            if not filled:
                continue
            place = source.choice(filled)
            lost = oracles.trimmed(stand[:place] + (None,) + stand[place + 1:])
            self.assertEqual(refusal(lets_stands, graph, replaced(table, block, index, lost)),
                             invalid("lacking", (block, index, stand[place])))
            twice = stand + (stand[place],)
            self.assertEqual(refusal(lets_stands, graph, replaced(table, block, index, twice)),
                             invalid("mark", (block, index, len(stand))))

    def test_by_name(self):
        self.assertEqual(lets_stands(thing=stands_of(LOOP), graph=LOOP), 3)


if __name__ == "__main__":
    unittest.main()
