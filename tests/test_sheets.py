import unittest

from linkneed.acrossing import across_at
from linkneed.needing import own_need
from linkneed.sheets import is_sheet, is_sheets, sheet_of, sheets_of
from tests import oracles
from tests.checks import refusal, unusable
from tests.samples import FAR, FIVE, LOOP, ODD_VALUES, ONE, ROUND, TWO, settled_graphs


class AcrossTest(unittest.TestCase):
    def test_examples(self):
        self.assertEqual(across_at(TWO, 0, 1), (0,))
        self.assertEqual(across_at(FAR, 0, 0), (2,))
        self.assertEqual(across_at(ROUND, 1, 2), (0,))

    def test_what_is_made_is_not_across(self):
        graph = ("g", 2, (((0, 1), (((2, 3), "call", (0,), ("f", 0)), ((4,), "add", (2, 1), 0)), ("give", (4, 1))),))
        self.assertEqual(across_at(graph, 0, 0), (1,))

    def test_random_graphs(self):
        for graph in settled_graphs(60, seed=21):
            for block, index in oracles.spots(graph):
                steps = graph[2][block][1]
                if index < len(steps) and steps[index][1] == "call":
                    self.assertEqual(across_at(graph, block, index), oracles.across(graph, block, index))
                else:
                    self.assertEqual(refusal(across_at, graph, block, index), unusable("index"))

    def test_refusals(self):
        for thing in [thing for thing in ODD_VALUES if thing != 0 or thing is False] + [1, 2]:
            self.assertEqual(refusal(across_at, TWO, thing, thing), unusable("block"))
        for thing in [thing for thing in ODD_VALUES if thing is not True and thing != 1] + [0, 2, 3, 4, 9]:
            self.assertEqual(refusal(across_at, TWO, 0, thing), unusable("index"))
        self.assertEqual(refusal(across_at, TWO, 0, True), unusable("index"))
        self.assertEqual(refusal(across_at, TWO, False, 1), unusable("block"))

    def test_by_name(self):
        self.assertEqual(across_at(index=1, graph=TWO, block=0), (0,))


class KindTest(unittest.TestCase):
    def test_sheets(self):
        for thing in (("f", 0, ()), ("f", 2, (("g", 0), ("f", 3), ("g", 0))), ("a1", 10 ** 30, (("ghost", 10 ** 30),))):
            self.assertIs(is_sheet(thing), True)
            self.assertIs(is_sheets((thing,)), True)
        self.assertIs(is_sheets(()), True)
        self.assertIs(is_sheets(FIVE), True)

    def test_no_sheets(self):
        wrong = ODD_VALUES + (
            ("f", 2), ("f", 2, (), ()), ["f", 2, ()], ("F", 2, ()), ("unit", 2, ()), ("f", -1, ()), ("f", True, ()),
            ("f", None, ()), ("f", 2, []), ("f", 2, None), ("f", 2, (("g", True),)), ("f", 2, (("g",),)), ("f", 2, (("g", 1, 1),)),
            ("f", 2, (["g", 1],)), ("f", 2, (("G", 1),)), ("f", 2, (("g", -1),)), ("f", 2, ("g", 1)), (1, 2, ()))
        for thing in wrong:
            self.assertIs(is_sheet(thing), False)
            self.assertIs(is_sheets((("a", 1, ()), thing)), False)

    def test_titles_are_unlike(self):
        self.assertIs(is_sheets((("f", 1, ()), ("g", 1, ()), ("f", 2, ()))), False)
        self.assertIs(is_sheets((("f", 1, ()), ("f", 1, ()))), False)
        self.assertIs(is_sheets([("f", 1, ())]), False)
        self.assertIs(is_sheets((("g", 1, ()), ("f", 2, ()))), True)

    def test_by_name(self):
        self.assertIs(is_sheet(thing=FIVE[0]), True)
        self.assertIs(is_sheets(thing=FIVE), True)


class SheetTest(unittest.TestCase):
    def test_examples(self):
        self.assertEqual(sheet_of(TWO), ("main", 2, (("twice", 1),)))
        self.assertEqual(sheets_of((TWO, ONE)), (("main", 2, (("twice", 1),)), ("twice", 1, ())))
        self.assertEqual(sheets_of((ONE, TWO)), sheets_of((TWO, ONE)))
        self.assertEqual([sheet_of(LOOP), sheet_of(ROUND)], [("sum", 3, ()), ("main", 2, (("main", 1),))])

    def test_random_graphs(self):
        for graph in settled_graphs(60, seed=22):
            calls = []
            for block, (_, steps, _) in enumerate(graph[2]):
                for index, step in enumerate(steps):
                    if step[1] == "call":
                        calls.append((step[3][0], len(oracles.across(graph, block, index))))
            self.assertEqual(sheet_of(graph), (graph[0], own_need(graph), tuple(calls)))

    def test_by_name(self):
        self.assertEqual(sheet_of(graph=TWO), sheet_of(TWO))
        self.assertEqual(sheets_of(graphs=(TWO, ONE)), sheets_of((TWO, ONE)))


if __name__ == "__main__":
    unittest.main()
