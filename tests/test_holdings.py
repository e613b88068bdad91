import random
import unittest

from linkneed.basing import bases_of, need_of
from linkneed.graphing import graph_of
from linkneed.holdingchecker import lets_holding
from linkneed.holdingpapers import holding_of
from linkneed.piling import pile_words
from linkneed.settling import settled
from linkneed.sheets import sheets_of
from linkneed.standing import stands_of
from tests import linkoracles, oracles
from tests.checks import refusal, same_kind
from tests.programsamples import (
    Paths, all_spots, calls_of, is_ring_call, laid_titles, plain_sheets, programs, random_holding, wrong_call)
from tests.samples import BEAT, LOOP, ODD_VALUES, ONE, PAIR, ROUND, TWO
from tests.test_moments import ring_program
from tests.unitsamples import bound_units

GRAPHS = (ONE, TWO)
HALF = ("main", (((0,), (0,), (0, 1), (0, 1), (0,)), ((0,),)))
TWICE_HALF = ("twice", (((1,), (1,), (1,)), ((1,),)))
WHOLE = (HALF, TWICE_HALF)


def invalid(word, at=-1):
    return ("InvalidPaper", {"word": word, "at": at})


def told_holding(graphs):
    by_title = {graph[0]: graph for graph in graphs}
    pairs = []
    for title, base in linkoracles.bases(plain_sheets(graphs)):
        graph = by_title[title]
        blocks = []
        for block, stands in enumerate(stands_of(graph)):
            blocks.append(tuple(tuple(base + stand.index(mark) for mark in oracles.alive(graph, block, index))
                                for index, stand in enumerate(stands)))
        blocks.append((tuple(base + place for place in range(graph[1])),))
        pairs.append((title, tuple(blocks)))
    return tuple(pairs)


def greatest(holding):
    return max([cell for _, blocks in holding for spots in blocks for cells in spots for cell in cells], default=-1)


def replaced(holding, at, block, index, cells):
    title, blocks = holding[at]
    spots = blocks[block][:index] + (cells,) + blocks[block][index + 1:]
    return holding[:at] + ((title, blocks[:block] + (spots,) + blocks[block + 1:]),) + holding[at + 1:]


class HoldingTest(unittest.TestCase):
    def test_example(self):
        self.assertEqual(holding_of(GRAPHS), WHOLE)

    def test_given_words(self):
        self.assertEqual(holding_of((("main",) + PAIR[1:],)), (("main", (((0,),), ((0, 1),))),))
        self.assertEqual(holding_of((("main", 0, (((), (BEAT,), ("give", ())),)),)), (("main", (((), ()), ((),))),))

    def test_only_what_main_reaches(self):
        self.assertEqual(holding_of((ONE, ("main",) + PAIR[1:])), (("main", (((0,),), ((0, 1),))),))

    def test_random_programs(self):
        for graphs in programs(80, seed=7, rings=0.3):
            holding = holding_of(graphs)
            self.assertTrue(same_kind(holding, told_holding(graphs)))
            self.assertEqual(lets_holding(graphs, holding), need_of(sheets_of(graphs)))

    def test_random_units(self):
        for units in bound_units(20, seed=65):
            graphs = tuple(settled(graph_of(unit, function[0])) for unit in units for function in unit[3])
            self.assertEqual(lets_holding(graphs, holding_of(graphs)), need_of(sheets_of(graphs)))

    def test_by_name(self):
        self.assertEqual(holding_of(graphs=GRAPHS), WHOLE)


class HoldingCheckerTest(unittest.TestCase):
    def test_examples(self):
        self.assertEqual(lets_holding(GRAPHS, (HALF, ("twice", (((1,), (7,), (2,)), ((1,),))))), 8)
        self.assertEqual(lets_holding(GRAPHS, WHOLE), 2)
        self.assertEqual(refusal(lets_holding, GRAPHS, (HALF, ("twice", (((1,), (1,), (1,)), ((0,),))))), invalid("call", (0, 0, 1)))

    def test_no_register(self):
        graphs = (("main", 0, (((), (BEAT,), ("give", ())),)),)
        self.assertTrue(same_kind(lets_holding(graphs, (("main", (((), ()), ((),))),)), 0))
        self.assertEqual(lets_holding((("main",) + PAIR[1:],), (("main", (((6,),), ((3, 10 ** 30),))),)), 10 ** 30 + 1)

    def test_lists(self):
        for thing in ODD_VALUES + (list(WHOLE), WHOLE[:1], WHOLE[::-1], WHOLE + WHOLE[1:], (HALF, TWICE_HALF[:1]), (HALF, list(TWICE_HALF)),
                                   (HALF, ("twic", ())), (HALF, None), (HALF, (None, ())), (HALF, ("twice", (), ()))):
            self.assertEqual(refusal(lets_holding, GRAPHS, thing), invalid("list"))
        self.assertEqual(refusal(lets_holding, (ONE, ("main",) + LOOP[1:]), WHOLE), invalid("list"))

    def test_blocks(self):
        for thing in (None, (), [], HALF[1][:1], HALF[1] + ((),), list(HALF[1]), "ab", 2):
            self.assertEqual(refusal(lets_holding, GRAPHS, (("main", thing), ("twice", None))), invalid("blocks", 0))
            self.assertEqual(refusal(lets_holding, GRAPHS, (HALF, ("twice", thing if thing != HALF[1] else None))), invalid("blocks", 1))

    def test_spots(self):
        for thing in (None, (), HALF[1][0][:4], HALF[1][0] + ((),), list(HALF[1][0]), "abcde"):
            self.assertEqual(refusal(lets_holding, GRAPHS, (("main", (thing, None)), None)), invalid("list"))
            self.assertEqual(refusal(lets_holding, GRAPHS, (("main", (thing, None)), TWICE_HALF)), invalid("spots", (0, 0)))
        for thing in (None, (), ((0,), (0,)), [(0,)]):
            self.assertEqual(refusal(lets_holding, GRAPHS, (("main", (HALF[1][0], thing)), TWICE_HALF)), invalid("spots", (0, 1)))
            self.assertEqual(refusal(lets_holding, GRAPHS, (HALF, ("twice", (TWICE_HALF[1][0], thing)))), invalid("spots", (1, 1)))

    def test_many(self):
        for cells in (None, (), (0,), (0, 1, 2), [0, 1], (0, True), (0, -1), (0, "1"), (0, None), (1, (1,)), "01"):
            self.assertEqual(refusal(lets_holding, GRAPHS, replaced(WHOLE, 0, 0, 2, cells)), invalid("many", (0, 0, 2)))
        for cells in (None, (), (0, 1), (False,)):
            self.assertEqual(refusal(lets_holding, GRAPHS, replaced(WHOLE, 0, 1, 0, cells)), invalid("many", (0, 1, 0)))
            self.assertEqual(refusal(lets_holding, GRAPHS, replaced(WHOLE, 1, 1, 0, cells)), invalid("many", (1, 1, 0)))

    def test_unlike(self):
        self.assertEqual(refusal(lets_holding, GRAPHS, replaced(WHOLE, 0, 0, 3, (1, 1))), invalid("unlike", (0, 0, 3)))
        graphs = (("main",) + PAIR[1:],)
        self.assertEqual(refusal(lets_holding, graphs, (("main", (((0,),), ((5, 5),))),)), invalid("unlike", (0, 1, 0)))

    def test_which_comes_first(self):
        calls_wrong = replaced(WHOLE, 1, 0, 0, (0,))
        self.assertEqual(refusal(lets_holding, GRAPHS, calls_wrong), invalid("call", (0, 0, 1)))
        self.assertEqual(refusal(lets_holding, GRAPHS, replaced(calls_wrong, 1, 1, 0, ())), invalid("many", (1, 1, 0)))
        two = replaced(replaced(WHOLE, 0, 0, 2, (3, 3)), 0, 0, 3, None)
        self.assertEqual(refusal(lets_holding, GRAPHS, two), invalid("unlike", (0, 0, 2)))
        two = replaced(WHOLE, 0, 0, 4, ())[:1] + (("twice", None),)
        self.assertEqual(refusal(lets_holding, GRAPHS, two), invalid("many", (0, 0, 4)))
        two = (("main", (HALF[1][0][:2] + ((0, 0),) + HALF[1][0][3:], None)), TWICE_HALF)
        self.assertEqual(refusal(lets_holding, GRAPHS, two), invalid("unlike", (0, 0, 2)))

    def test_what_the_called_one_reaches_counts(self):
        middle = ("middle", 1, (((0,), (BEAT, ((1,), "call", (0,), ("twice", 0))), ("give", (1,))),))
        main = ("main", 1, (((0,), (BEAT, ((1,), "call", (0,), ("middle", 0)), ((3,), "add", (1, 0), 0)), ("give", (3,))),))
        graphs = (main, middle, ONE)
        holding = holding_of(graphs)
        self.assertEqual(lets_holding(graphs, holding), 2)
        self.assertEqual(refusal(lets_holding, graphs, replaced(holding, 2, 0, 1, (0,))), invalid("call", (0, 0, 1)))
        self.assertEqual(refusal(lets_holding, graphs, replaced(holding, 1, 1, 0, (0,))), invalid("call", (0, 0, 1)))
        self.assertEqual(lets_holding(graphs, replaced(holding, 1, 0, 1, (9,))), 10)

    def test_ring_calls_ask_nothing(self):
        self.assertEqual(lets_holding((ROUND,), holding_of((ROUND,))), 2)
        self.assertEqual(lets_holding(ring_program(), holding_of(ring_program())), 3)

    def test_random_registers(self):
        source = random.Random(14)
        let = 0
        for graphs in programs(120, seed=8, rings=0.3, most_blocks=3, most_steps=2):
            need = need_of(sheets_of(graphs))
            for registers in (need, need + 4, 40):
                holding = random_holding(graphs, source, registers)
                wrong = wrong_call(graphs, holding)
                if wrong is None:
                    let += 1
                    self.assertEqual(lets_holding(graphs, holding), 1 + greatest(holding))
                    self.assertGreaterEqual(1 + greatest(holding), need)
                else:
                    self.assertEqual(refusal(lets_holding, graphs, holding), invalid("call", wrong))
        self.assertGreater(let, 40)

    def test_by_name(self):
        self.assertEqual(lets_holding(thing=WHOLE, graphs=GRAPHS), 2)


class GuaranteeTest(unittest.TestCase):
    """What (G1) and (G2) say of holdings."""

    def counted(self, paths, holding, path, title, spot):
        """The registers of all that a moment counts."""
        told = dict(holding)
        cells = list(told[title][spot[0]][spot[1]])
        for call in path:
            caller, block, index = call
            graph = paths.by_title[caller]
            called = graph[2][block][1][index][3][0]
            if not is_ring_call(paths.sheets, caller, called):
                alive = oracles.alive(graph, block, index + 1)
                cells += [told[caller][block][index + 1][alive.index(mark)] for mark in oracles.across(graph, block, index)]
        return cells

    def test_holdings_are_unlike_at_each_moment(self):
        source = random.Random(15)
        kept = set()
        for graphs in programs(60, seed=9, rings=0.25, most_blocks=3, most_steps=2):
            paths = Paths(graphs)
            if len(list(paths.paths())) > 80:
                continue
            need = need_of(sheets_of(graphs))
            for holding in (holding_of(graphs), random_holding(graphs, source, need), random_holding(graphs, source, 3 * need + 5)):
                unlike = True
                for path, title in paths.paths():
                    for spot in all_spots(paths.by_title[title]):
                        cells = self.counted(paths, holding, path, title, spot)
                        unlike = unlike and len(set(cells)) == len(cells)
                self.assertEqual(wrong_call(graphs, holding) is None, unlike)
                kept.add(unlike)
        self.assertEqual(kept, {True, False})

    def test_registers_below_a_base_are_free(self):
        source = random.Random(16)
        for graphs in programs(80, seed=10, rings=0.3, most_blocks=3, most_steps=2):
            sheets = sheets_of(graphs)
            for holding in (holding_of(graphs), random_holding(graphs, source, 40)):
                if wrong_call(graphs, holding) is not None:
                    continue
                registers = lets_holding(graphs, holding)
                had = {title: {cell for spots in blocks for cells in spots for cell in cells} for title, blocks in holding}
                for title, base in bases_of(sheets):
                    cells = had[title].union(*[had[one] for one in linkoracles.reached(sheets, title)])
                    self.assertGreaterEqual(registers - len(cells), base)

    def test_ring_calls_that_have_marks_across_them_cannot_be_kept_so(self):
        # Asked of ring calls, too, the mark across would have no register of what the function itself has.
        source = random.Random(17)
        for graphs in programs(60, seed=11, rings=0.5, most_blocks=3, most_steps=2):
            by_title = {graph[0]: graph for graph in graphs}
            sheets = plain_sheets(graphs)
            crossed = [title for title in laid_titles(graphs) for block, index in calls_of(by_title[title])
                       if is_ring_call(sheets, title, by_title[title][2][block][1][index][3][0])
                       and oracles.across(by_title[title], block, index)]
            for holding in (holding_of(graphs), random_holding(graphs, source, 60)):
                if wrong_call(graphs, holding) is None:
                    self.assertEqual(self.is_kept_in_rings(graphs, holding, sheets), not crossed)

    def is_kept_in_rings(self, graphs, holding, sheets):
        by_title = {graph[0]: graph for graph in graphs}
        had = {title: {cell for spots in blocks for cells in spots for cell in cells} for title, blocks in holding}
        for title, blocks in holding:
            graph = by_title[title]
            for block, index in calls_of(graph):
                called = graph[2][block][1][index][3][0]
                alive = oracles.alive(graph, block, index + 1)
                held = {blocks[block][index + 1][alive.index(mark)] for mark in oracles.across(graph, block, index)}
                if any(held & had[one] for one in {called} | linkoracles.reached(sheets, called)):
                    return False
        return True


class PilingTest(unittest.TestCase):
    def test_examples(self):
        self.assertEqual(pile_words((ROUND,)), (("main", 1),))
        self.assertEqual(pile_words(GRAPHS), (("main", 0), ("twice", 0)))
        self.assertEqual(pile_words(ring_program()), (("f", 1), ("g", 0), ("main", 2)))

    def test_random_programs(self):
        for graphs in programs(100, seed=12, rings=0.4):
            by_title = {graph[0]: graph for graph in graphs}
            sheets = plain_sheets(graphs)
            expected = []
            for title in laid_titles(graphs):
                graph = by_title[title]
                counts = [len(oracles.across(graph, block, index)) for block, index in calls_of(graph)
                          if is_ring_call(sheets, title, graph[2][block][1][index][3][0])]
                expected.append((title, max(counts, default=0)))
            self.assertTrue(same_kind(pile_words(graphs), tuple(expected)))

    def test_what_main_does_not_reach_is_left_out(self):
        self.assertEqual(pile_words((("f",) + ROUND[1:2] + (ONE[2],), ("main",) + PAIR[1:])), (("main", 0),))

    def test_by_name(self):
        self.assertEqual(pile_words(graphs=(ROUND,)), (("main", 1),))


if __name__ == "__main__":
    unittest.main()
