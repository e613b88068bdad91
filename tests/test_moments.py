import random
import unittest

from linkneed.basing import need_of
from linkneed.graphing import graph_of
from linkneed.momentchecker import lets_moment
from linkneed.momentpapers import moment_of
from linkneed.needing import own_need
from linkneed.passes import passed
from linkneed.settling import settled
from linkneed.sheets import sheets_of
from tests.checks import refusal, same_kind
from tests.programsamples import Paths, all_spots, calls_of, programs
from tests.samples import BEAT, LOOP, ODD_VALUES, ONE, PAIR, ROUND, TWO
from tests.unitsamples import bound_units

SUM = (("main",) + LOOP[1:],)
CALL = ("main", 0, 1)


def invalid(word, at=-1):
    return ("InvalidPaper", {"word": word, "at": at})


def ring_program():
    """main and f call one another, f calls g with two marks across."""
    main = ("main", 1, (((0, 1, 2), (BEAT, ((3,), "call", (0,), ("f", 0)), ((4,), "add", (3, 1), 0), ((5,), "add", (4, 2), 0)),
                         ("give", (5,))),))
    f = ("f", 1, (((7,), (BEAT, ((1,), "call", (7, 7, 7), ("main", 0)), ((2,), "call", (1,), ("g", 1)), ((3,), "add", (2, 7), 0),
                          ((4,), "add", (3, 1), 0)), ("give", (4,))),))
    return (("g",) + ONE[1:], main, f)


class MomentTest(unittest.TestCase):
    def check(self, graphs):
        calls, block, index = moment = moment_of(graphs)
        need = need_of(sheets_of(graphs))
        self.assertTrue(same_kind(lets_moment(graphs, moment), need))
        paths = Paths(graphs)
        titles = [call[0] for call in calls]
        by_title = paths.by_title
        led = [by_title[title][2][at][1][number][3][0] for title, at, number in calls]
        self.assertEqual(titles, (["main"] + led)[:-1])
        self.assertEqual(len(set(["main"] + led)), len(led) + 1)
        title = (["main"] + led)[-1]
        self.assertIn((block, index), all_spots(by_title[title]))
        self.assertEqual(paths.crowd(calls, title, (block, index)), need)

    def test_examples(self):
        self.assertEqual(moment_of(SUM), ((), 2, 2))
        self.assertEqual(lets_moment((ONE, TWO), moment_of((ONE, TWO))), 2)

    def test_behind_the_giving(self):
        self.assertEqual(moment_of((("main",) + PAIR[1:],)), ((), 1, 0))

    def test_in_rings(self):
        graphs = ring_program()
        # The ring call in main has no weight, the call of g one of two.
        self.assertEqual(need_of(sheets_of(graphs)), 3)
        self.check(graphs)
        self.check((ROUND,))
        self.assertEqual(lets_moment(graphs, ((("main", 0, 1), ("f", 0, 2)), 0, 0)), 3)

    def test_main_need_not_have_it(self):
        deep = ("deep", 1, (((0,), (BEAT,) + tuple(((mark,), "number", (), 7) for mark in range(1, 5)) + (
            ((5,), "add", (1, 2), 0), ((6,), "add", (3, 4), 0), ((7,), "add", (5, 6), 0)), ("give", (7,))),))
        main = ("main", 1, (((0, 1), (BEAT, ((2,), "call", (0,), ("deep", 0)), ((3,), "add", (2, 1), 0)), ("give", (3,))),))
        self.assertEqual(moment_of((deep, main)), ((("main", 0, 1),), 0, 5))

    def test_random_programs(self):
        for graphs in programs(150, seed=3, rings=0.35) + programs(50, seed=4, rings=0):
            self.check(graphs)

    def test_random_units(self):
        for units in bound_units(25, seed=64):
            graphs = tuple(settled(graph_of(unit, function[0])) for unit in units for function in unit[3])
            self.check(graphs)
            self.check(tuple(passed(graph, ("fold", "drop")) for graph in graphs))

    def test_what_main_does_not_reach_has_no_moment(self):
        wide = ("wide", 9, (((0,), (BEAT,), ("give", (0,) * 9)),))
        self.assertEqual(moment_of(SUM + (wide,)), ((), 2, 2))

    def test_by_name(self):
        self.assertEqual(moment_of(graphs=SUM), ((), 2, 2))


class MomentCheckerTest(unittest.TestCase):
    def test_examples(self):
        self.assertEqual([lets_moment((ONE, TWO), ((), 0, 0)), lets_moment((ONE, TWO), ((CALL,), 1, 0))], [1, 2])

    def test_any_moment(self):
        for graphs in programs(40, seed=5, rings=0.35, most_blocks=4, most_steps=3):
            need = need_of(sheets_of(graphs))
            paths = Paths(graphs, often=2)
            crowds = []
            for number, (path, title) in enumerate(paths.paths()):
                if number > 60:
                    break
                for spot in all_spots(paths.by_title[title]):
                    crowd = paths.crowd(path, title, spot)
                    crowds.append(crowd)
                    self.assertTrue(same_kind(lets_moment(graphs, (path,) + spot), crowd))
            self.assertLessEqual(max(crowds), need)

    def test_a_function_may_come_often(self):
        call = ("main", 1, 2)
        self.assertEqual([lets_moment((ROUND,), ((call,) * many, 0, 0)) for many in (0, 1, 7, 40)], [1] * 4)
        self.assertEqual([lets_moment((ROUND,), ((call,) * many, 1, 2)) for many in (0, 3)], [2, 2])

    def test_forms(self):
        graphs = (ONE, TWO)
        for thing in ODD_VALUES + (((), 0), ((), 0, 0, 0), [(), 0, 0], ([], 0, 0), ((), -1, 0), ((), 0, -1), ((), True, 0), ((), 0, False),
                                   ((), None, 0), ((), 0, "0"), (None, 0, 0), ("", 0, 0), ((None,), 0, 0), ((["main", 0, 1],), 0, 0),
                                   ((("main", 0),), 0, 0), ((("main", 0, 1, 0),), 0, 0), ((("Main", 0, 1),), 0, 0),
                                   (((0, 0, 1),), 0, 0), ((("main", -1, 1),), 0, 0), ((("main", 0, True),), 0, 0),
                                   ((CALL, ("call", 0, 1)), 0, 0), ((CALL, (["twice"], 0, 1)), 0, 0)):
            self.assertEqual(refusal(lets_moment, graphs, thing), invalid("form"))

    def test_calls(self):
        graphs = (ONE, TWO)
        for call in (("twice", 0, 1), ("main", 0, 0), ("main", 0, 2), ("main", 1, 0), ("main", 9, 1), ("main", 0, 99), ("ghost", 0, 1)):
            self.assertEqual(refusal(lets_moment, graphs, ((call,), 99, 99)), invalid("call", 0))
        self.assertEqual(refusal(lets_moment, graphs, ((CALL, CALL), 0, 0)), invalid("call", 1))
        self.assertEqual(refusal(lets_moment, graphs, ((CALL, ("twice", 0, 1)), 0, 0)), invalid("call", 1))
        graphs = ring_program()
        here, there = ("main", 0, 1), ("f", 0, 1)
        self.assertEqual(refusal(lets_moment, graphs, ((here, there, here, here), 0, 0)), invalid("call", 3))
        self.assertEqual(lets_moment(graphs, ((here, there, here, there), 0, 0)), 3)

    def test_calls_of_functions_that_main_does_not_reach(self):
        spare = ("spare",) + ROUND[1:2] + (TWO[2],)
        self.assertEqual(refusal(lets_moment, (ONE, TWO, spare), ((("spare", 0, 1),), 0, 0)), invalid("call", 0))

    def test_spots(self):
        graphs = (ONE, TWO)
        for block, index in ((0, 5), (1, 1), (2, 0), (9, 9)):
            self.assertEqual(refusal(lets_moment, graphs, ((), block, index)), invalid("spot"))
        for block, index in ((0, 3), (1, 1), (2, 0)):
            self.assertEqual(refusal(lets_moment, graphs, ((CALL,), block, index)), invalid("spot"))
        self.assertEqual([lets_moment(graphs, ((), 0, 4)), lets_moment(graphs, ((), 1, 0)), lets_moment(graphs, ((CALL,), 0, 2))], [1, 1, 2])

    def test_spots_of_random_programs(self):
        source = random.Random(13)
        for graphs in programs(30, seed=6):
            main = [graph for graph in graphs if graph[0] == "main"][0]
            spots = all_spots(main)
            for _ in range(20):
                spot = (source.randrange(len(main[2]) + 2), source.randrange(7))
                if spot in spots:
                    self.assertLessEqual(lets_moment(graphs, ((),) + spot), own_need(main))
                else:
                    self.assertEqual(refusal(lets_moment, graphs, ((),) + spot), invalid("spot"))
            for block, index in spots:
                if (block, index) not in calls_of(main):
                    self.assertEqual(refusal(lets_moment, graphs, ((("main", block, index),), 0, 0)), invalid("call", 0))

    def test_by_name(self):
        self.assertEqual(lets_moment(thing=((CALL,), 1, 0), graphs=(ONE, TWO)), 2)


if __name__ == "__main__":
    unittest.main()
