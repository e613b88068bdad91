import unittest

from linkneed.deeds import done
from linkneed.deedwalks import lets_deeds
from linkneed.graphkinds import is_settled
from linkneed.passclasses import Bettering
from linkneed.passes import PASSES, passed
from tests.checks import refusal, same_kind, unusable
from tests.samples import LOOP, ODD_VALUES, ONE, PICK, SIX, TWO, settled_graphs
from tests.test_deeds import NO_DEEDS
from tests.test_graphclasses import UNMADE

SAME, DROP = ("same", 2, 1), ("drop", (2,))


class BetteringTest(unittest.TestCase):
    def test_example(self):
        one = Bettering.behind(TWO, SAME, DROP)
        self.assertEqual([one.many_now, one == Bettering(TWO), one.back(many=2) == TWO, one.many_now], [2, False, True, 0])
        self.assertEqual(refusal(one.back), ("NothingToUndo", {"steps": 0}))

    def test_a_new_one(self):
        one = Bettering(graph=LOOP)
        self.assertEqual([one.graph_now, one.many_now, one.deeds(), list(one)], [LOOP, 0, (), [LOOP]])

    def test_deeds(self):
        one = Bettering(TWO)
        self.assertEqual([one.is_due(SAME), one.is_due(DROP), one.is_due(deed=("join", 0))], [True, False, False])
        self.assertEqual(one(SAME), done(TWO, SAME))
        self.assertEqual([one.graph_now, one.many_now], [TWO, 0])
        self.assertIsNone(one.done(SAME))
        self.assertEqual([one.is_due(SAME), one.is_due(DROP)], [False, True])
        self.assertIsNone(one.done(deed=DROP))
        row = [TWO, done(TWO, SAME), done(done(TWO, SAME), DROP)]
        self.assertEqual([list(one), one.graph_now, one.many_now, one.deeds()], [row, row[2], 2, (SAME, DROP)])

    def test_refused_deeds_change_nothing(self):
        one = Bettering.behind(TWO, SAME)
        for deed in NO_DEEDS:
            self.assertEqual(refusal(one.is_due, deed), unusable("deed"))
            self.assertEqual(refusal(one.done, deed), unusable("deed"))
            self.assertEqual(refusal(one, deed), unusable("deed"))
        for deed in (SAME, ("join", 0), ("drop", (1,))):
            self.assertEqual(refusal(one.done, deed), unusable("deed"))
            self.assertEqual(refusal(one, deed), unusable("deed"))
        self.assertEqual([one.many_now, list(one)], [1, [TWO, done(TWO, SAME)]])

    def test_passes(self):
        one = Bettering(SIX)
        self.assertIsNone(one.passed("straighten"))
        self.assertEqual([one.many_now, one.graph_now, one.deeds()], [1, SIX, ()])
        self.assertIsNone(one.passed(name="fold"))
        one.passed("drop")
        self.assertEqual(list(one), [SIX, SIX, passed(SIX, ("fold",)), passed(SIX, ("fold", "drop"))])
        self.assertEqual(one.many_now, 3)
        for name in ODD_VALUES + ("folded", ("fold",), ["fold"]):
            self.assertEqual(refusal(one.passed, name), unusable("name"))
        self.assertEqual(one.many_now, 3)

    def test_back(self):
        one = Bettering(PICK)
        for name in PASSES:
            one.passed(name)
        row = list(one)
        self.assertEqual(one.back(many=0), row[4])
        self.assertEqual([one.back(), one.many_now, list(one)], [row[3], 3, row[:4]])
        self.assertEqual(refusal(one.back, many=4), ("NothingToUndo", {"steps": 3}))
        self.assertEqual(refusal(one.back, many=10 ** 40), ("NothingToUndo", {"steps": 3}))
        self.assertEqual([one.back(many=2), list(one)], [row[1], row[:2]])
        self.assertEqual(lets_deeds(PICK, one.deeds()), one.graph_now)
        for many in [thing for thing in ODD_VALUES if thing not in (0, 1, 10 ** 59) or isinstance(thing, bool)]:
            self.assertEqual(refusal(one.back, many=many), unusable("many"))
        self.assertRaises(TypeError, one.back, 1)
        self.assertEqual(one.many_now, 1)

    def test_rows_that_were_handed_out_stay(self):
        one = Bettering(TWO)
        seen = iter(one)
        one.done(SAME)
        self.assertEqual(list(seen), [TWO])

    def test_random_graphs(self):
        for graph in settled_graphs(40, seed=210, few_words=True):
            one = Bettering(graph)
            row = [graph]
            for name in ("lift", "fold", "straighten", "drop", "straighten"):
                one.passed(name)
                row.append(passed(row[-1], (name,)))
                self.assertEqual(lets_deeds(graph, one.deeds()), row[-1])
            self.assertEqual(list(one), row)
            self.assertTrue(same_kind(one.back(many=3), row[2]))
            self.assertEqual(lets_deeds(graph, one.deeds()), row[2])

    def test_equality(self):
        one = Bettering.behind(TWO, SAME)
        self.assertTrue(one == Bettering(done(TWO, SAME)) and not one != Bettering(done(TWO, SAME)))
        self.assertTrue(Bettering(done(TWO, SAME)) == one)
        self.assertFalse(one == Bettering(TWO) or Bettering(TWO) == one)
        for thing in (None, TWO, one.graph_now, [one.graph_now], True):
            self.assertFalse(one == thing)

    def test_behind(self):
        self.assertEqual(list(Bettering.behind(TWO)), [TWO])
        self.assertIs(type(Bettering.behind(TWO, SAME)), Bettering)
        self.assertEqual(refusal(Bettering.behind, None, None), unusable("graph"))
        self.assertEqual(refusal(Bettering.behind, TWO, SAME, None), unusable("deed"))
        self.assertEqual(refusal(Bettering.behind, TWO, DROP, SAME), unusable("deed"))

    def test_refusals(self):
        for thing in ODD_VALUES + (UNMADE, list(ONE), ("number", 1, 2)):
            self.assertFalse(is_settled(thing))
            self.assertEqual(refusal(Bettering, thing), unusable("graph"))


if __name__ == "__main__":
    unittest.main()
