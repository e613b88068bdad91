import unittest

from linkneed.dropping import dropped
from linkneed.folding import folded
from linkneed.graphing import graph_of
from linkneed.graphkinds import is_settled
from linkneed.lifting import lifted
from linkneed.passes import PASSES, pass_deeds, passed
from linkneed.programs import lets_program
from linkneed.settling import settled
from linkneed.straightening import straightened
from tests import oracles
from tests.checks import refusal, unusable
from tests.samples import LOOP, ODD_VALUES, ONE, PICK, SIX, TWO, settled_graphs
from tests.unitsamples import GraphRun, TreeRun, bound_units, some_args

ROWS = ((), ("fold",), ("drop",), ("straighten",), ("lift",), ("fold", "drop"), ("straighten", "fold", "drop", "straighten"),
        ("lift", "fold", "drop", "straighten", "lift"), ("drop", "drop"))


class PassesTest(unittest.TestCase):
    def test_example(self):
        self.assertEqual(passed(SIX, ("fold", "drop")), dropped(folded(SIX)))
        self.assertEqual(oracles.all_done(TWO, pass_deeds(TWO, ("fold", "drop"))), passed(TWO, ("fold", "drop")))
        self.assertEqual(pass_deeds(TWO, ("fold", "drop")), (("same", 2, 1), ("drop", (2,))))

    def test_names_of_passes(self):
        self.assertEqual(PASSES, ("fold", "drop", "straighten", "lift"))
        for name, function in zip(PASSES, (folded, dropped, straightened, lifted)):
            for graph in (LOOP, PICK, SIX, TWO):
                self.assertEqual(passed(graph, (name,)), function(graph))

    def test_no_pass(self):
        self.assertEqual([passed(LOOP, ()), pass_deeds(LOOP, ())], [LOOP, ()])

    def test_the_order_counts(self):
        self.assertEqual(passed(TWO, ("drop", "fold")), folded(TWO))
        self.assertEqual(passed(TWO, ("fold", "drop")), dropped(folded(TWO)))

    def test_random_graphs(self):
        for graph in settled_graphs(60, seed=81, few_words=True):
            for names in ROWS:
                behind = graph
                for name in names:
                    behind = {"fold": folded, "drop": dropped, "straighten": straightened, "lift": lifted}[name](behind)
                self.assertEqual(passed(graph, names), behind)
                self.assertTrue(is_settled(behind))
                deeds = pass_deeds(graph, names)
                self.assertIsInstance(deeds, tuple)
                self.assertEqual(oracles.all_done(graph, deeds), behind)

    def test_runs_of_random_units(self):
        for units in bound_units(100, seed=10):
            graphs = tuple(settled(graph_of(unit, function[0])) for unit in units for function in unit[3])
            lets_program(graphs)
            for names in ROWS[1:-1]:
                behind = tuple(passed(graph, names) for graph in graphs)
                lets_program(behind)
                for seed in range(2):
                    args = some_args(units, seed)
                    self.assertEqual(GraphRun(behind, 40).outcome(args), TreeRun(units, 40).outcome(args))

    def test_refusals(self):
        for thing in [thing for thing in ODD_VALUES if thing != ()] + [
                "fold", ["fold"], ("folded",), ("fold", "lifts"), ("fold", None), (("fold",),), ("fold", ["drop"])]:
            self.assertEqual(refusal(passed, ONE, thing), unusable("names"))
            self.assertEqual(refusal(pass_deeds, ONE, thing), unusable("names"))

    def test_by_name(self):
        self.assertEqual(passed(names=("fold",), graph=TWO), folded(TWO))
        self.assertEqual(pass_deeds(names=("fold",), graph=TWO), (("same", 2, 1),))


if __name__ == "__main__":
    unittest.main()
