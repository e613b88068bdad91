import unittest

from linkneed.basing import bases_of, need_of
from linkneed.graphing import graph_of
from linkneed.passes import passed
from linkneed.settling import settled
from linkneed.sheets import sheet_of, sheets_of
from tests import linkoracles, oracles
from tests.checks import refusal, same_kind, unusable
from tests.samples import FIVE, LOOP, ONE, ROUND, TWO
from tests.unitsamples import bound_units


def missing(title):
    return ("Missing", {"title": title})


class BasingTest(unittest.TestCase):
    def test_examples(self):
        self.assertEqual(bases_of(FIVE), (("even", 2), ("leaf", 4), ("main", 0), ("odd", 2)))
        self.assertEqual(need_of(FIVE), 6)
        self.assertEqual(bases_of(sheets_of((TWO, ONE))), (("main", 0), ("twice", 1)))
        self.assertEqual(need_of(sheets_of((TWO, ONE))), 2)

    def test_main_alone(self):
        self.assertTrue(same_kind([bases_of((("main", 0, ()),)), need_of((("main", 0, ()),))], [(("main", 0),), 0]))
        self.assertEqual(need_of((sheet_of(("main",) + LOOP[1:]),)), 3)

    def test_main_in_a_ring(self):
        sheets = (("f", 7, (("main", 9), ("g", 2))), ("main", 3, (("f", 5), ("main", 6))), ("g", 1, ()))
        self.assertEqual(bases_of(sheets), (("f", 0), ("g", 2), ("main", 0)))
        self.assertEqual(need_of(sheets), 7)
        self.assertEqual(need_of((sheet_of(ROUND),)), 2)

    def test_what_main_does_not_reach_does_not_count(self):
        sheets = (("far", 99, (("ghost", 5), ("main", 4))), ("main", 1, ()))
        self.assertEqual([bases_of(sheets), need_of(sheets)], [(("main", 0),), 1])

    def test_the_greatest_of_several_paths(self):
        sheets = (("main", 1, (("a", 3), ("b", 1))), ("a", 1, (("c", 0),)), ("b", 1, (("c", 3), ("a", 0))), ("c", 2, ()))
        self.assertEqual([bases_of(sheets), need_of(sheets)], [(("a", 3), ("b", 1), ("c", 4), ("main", 0)), 6])

    def test_random_sheets(self):
        for seed in range(200):
            sheets = linkoracles.random_sheets(seed)
            self.assertEqual(bases_of(sheets), linkoracles.bases(sheets))
            self.assertEqual(need_of(sheets), linkoracles.need(sheets))

    def test_bases_are_the_least_that_hold(self):
        for seed in range(60):
            sheets = linkoracles.random_sheets(seed)
            bases = dict(bases_of(sheets))
            calls = [(title, name, linkoracles.weight(sheets, title, name, many))
                     for title, _, called in sheets if title in bases for name, many in called]
            self.assertTrue(all(bases[name] >= bases[title] + worth for title, name, worth in calls))
            for lowered in bases:
                if bases[lowered] > 0:
                    fewer = dict(bases, **{lowered: bases[lowered] - 1})
                    ring = [one for one in linkoracles.rings(sheets) if lowered in one]
                    for title in ring[0] if ring else ():
                        fewer[title] = bases[lowered] - 1
                    self.assertFalse(all(fewer[name] >= fewer[title] + worth for title, name, worth in calls))
            for ring in linkoracles.rings(sheets):
                self.assertEqual(len({bases.get(title) for title in ring}), 1)

    def test_no_moment_of_a_program_has_a_greater_crowd(self):
        for units in bound_units(25, seed=31):
            graphs = tuple(settled(graph_of(unit, function[0])) for unit in units for function in unit[3])
            self.check_moments(graphs)
            self.check_moments(tuple(passed(graph, ("fold", "drop")) for graph in graphs))

    def check_moments(self, graphs):
        sheets = sheets_of(graphs)
        by_title = {graph[0]: graph for graph in graphs}
        crowds = []

        def walk(title, come, total):
            graph = by_title[title]
            crowds.append(total + graph[1])
            for block, index in oracles.spots(graph):
                crowds.append(total + len(oracles.alive(graph, block, index)))
                steps = graph[2][block][1]
                if index < len(steps) and steps[index][1] == "call" and steps[index][3][0] not in come:
                    called = steps[index][3][0]
                    across = len(oracles.across(graph, block, index))
                    walk(called, come + [called], total + linkoracles.weight(sheets, title, called, across))

        walk("main", ["main"], 0)
        self.assertEqual(need_of(sheets), max(crowds))

    def test_missing(self):
        for function in (bases_of, need_of):
            self.assertEqual(refusal(function, ()), missing("main"))
            self.assertEqual(refusal(function, (("f", 1, (("ghost", 1),)),)), missing("main"))
            self.assertEqual(refusal(function, (("main", 1, (("z", 1), ("a", 1))), ("b", 1, ()))), missing("z"))
            sheets = (("main", 1, (("b", 1), ("z", 0))), ("b", 1, (("b", 0), ("y", 1), ("x", 0))))
            self.assertEqual(refusal(function, sheets), missing("y"))
            sheets = (("main", 1, (("b", 1), ("w", 0))), ("zz", 1, (("a", 1),)), ("b", 1, (("zz", 0),)))
            self.assertEqual(refusal(function, sheets), missing("w"))

    def test_missing_at_random(self):
        for seed in range(150):
            sheets = linkoracles.random_sheets(seed, ghosts=True)
            titles = [sheet[0] for sheet in sheets]
            lacking = [name for title, _, called in sorted(sheets)
                       if title == "main" or title in linkoracles.reached(sheets, "main")
                       for name, _ in called if name not in titles]
            if lacking:
                self.assertEqual(refusal(bases_of, sheets), missing(lacking[0]))
                self.assertEqual(refusal(need_of, sheets), missing(lacking[0]))
            else:
                self.assertEqual(bases_of(sheets), linkoracles.bases(sheets))

    def test_no_sheets(self):
        for function in (bases_of, need_of):
            for thing in (None, [], (None,), FIVE + FIVE[:1], list(FIVE), (("main", 1),), (("main", True, ()),), "main"):
                self.assertEqual(refusal(function, thing), unusable("sheets"))

    def test_by_name(self):
        self.assertEqual(bases_of(sheets=FIVE), bases_of(FIVE))
        self.assertEqual(need_of(sheets=FIVE), 6)


if __name__ == "__main__":
    unittest.main()
