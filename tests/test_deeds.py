import random
import unittest

from linkneed.deedkinds import is_deed
from linkneed.deeds import done, is_due
from linkneed.deedwalks import lets_deeds
from linkneed.dropping import spare_marks
from linkneed.folding import due_folds, fold_deeds, folded
from linkneed.graphing import graph_of
from linkneed.graphkinds import is_settled
from linkneed.passes import pass_deeds, passed
from linkneed.settling import settled
from tests import oracles
from tests.checks import refusal, same_kind, unusable
from tests.samples import BEAT, LOOP, ODD_VALUES, PICK, SIX, TWO, settled_graphs
from tests.unitsamples import GraphRun, TreeRun, bound_units, some_args

NO_DEEDS = ODD_VALUES + (
    ("number", 2), ("number", 2, 65536), ("number", 2, -1), ("number", -1, 2), ("number", True, 2), ("number", 2, True),
    ("number", 2, 3, 0), ("number", "2", 3), ["number", 2, 3], ("same", 1), ("same", 1, None), ("same", -1, 1), ("same", 1, False),
    ("same", 1, 2, 3), ("drop",), ("drop", ()), ("drop", [2]), ("drop", (2, 2)), ("drop", (3, 2)), ("drop", (True,)),
    ("drop", (-1, 2)), ("drop", 2), ("drop", (2,), ()), ("drop", ((2,),)), ("drop", None), ("drops", (2,)), (None, (2,)), ("straight",), ("straight", -1),
    ("straight", None), ("straight", 0, 0), ("straight", True), ("join",), ("join", "0"), ("join", 1, 2), ("join", False),
    ("ahead", 1), ("ahead", 1, -1), ("ahead", 1, True), ("ahead", (1,), 0), ("ahead", 1, 0, 0), ("fold", 1, 2), (("same",), 1, 2),
    (None, 1, 2), ([], 1, 2))


def all_deeds(graph):
    """Deeds of all forms but drop with the graph's marks and blocks, and with one more."""
    marks = oracles.marks_of(graph)
    marks = marks + [1 + max(marks, default=0)]
    blocks = range(len(graph[2]) + 1)
    found = [(word, block) for word in ("straight", "join") for block in blocks]
    found += [("same", one, other) for one in marks for other in marks]
    found += [("ahead", mark, block) for mark in marks for block in blocks]
    found += [("number", mark, word) for mark in marks for word in (0, 1, 2, 3, 6)]
    return found + [("number",) + deed[1:] for deed in oracles.due_folds(graph) if deed[0] == "number"]


def some_drops(graph, source):
    marks = oracles.marks_of(graph)
    found = [tuple(sorted(source.sample(marks, source.randrange(1, min(4, len(marks)) + 1)))) for _ in range(12) if marks]
    spare = oracles.spare_marks(graph) if len(marks) < 10 else spare_marks(graph)
    found += [spare] + [spare[:at] + spare[at + 1:] for at in range(len(spare))] + [(mark,) for mark in spare]
    return [("drop", some) for some in found + [(10 ** 6,)] if some]


class KindTest(unittest.TestCase):
    def test_example(self):
        self.assertEqual([is_deed(("number", 2, 65536)), is_deed(("drop", ())), is_deed(("same", 3, 3))], [False, False, True])

    def test_deeds(self):
        for thing in (("number", 0, 0), ("number", 10 ** 50, 65535), ("same", 0, 10 ** 50), ("drop", (0,)), ("drop", (0, 5, 9)),
                      ("straight", 0), ("join", 10 ** 30), ("ahead", 4, 0), ("ahead", 0, 10 ** 30)):
            self.assertIs(is_deed(thing), True)

    def test_no_deeds(self):
        for thing in NO_DEEDS:
            self.assertIs(is_deed(thing), False, thing)

    def test_by_name(self):
        self.assertIs(is_deed(thing=("join", 1)), True)


class DueTest(unittest.TestCase):
    def test_examples(self):
        self.assertEqual([is_due(TWO, ("same", 2, 1)), is_due(LOOP, ("ahead", 5, 0)), is_due(LOOP, ("ahead", 6, 0))], [True, True, False])

    def test_number(self):
        self.assertIs(is_due(SIX, ("number", 2, 6)), True)
        self.assertIs(is_due(SIX, ("number", 2, 5)), False)
        self.assertIs(is_due(SIX, ("number", 4, 0)), False)
        self.assertIs(is_due(SIX, ("number", 0, 2)), False)
        for verb, other, word in (("div", 0, 0), ("rem", 0, 9), ("div", 4, 2), ("rem", 4, 1)):
            graph = ("g", 1, (((), (BEAT, ((0,), "number", (), 9), ((1,), "number", (), other), ((2,), verb, (0, 1), 5)),
                               ("give", (2,))),))
            self.assertIs(is_due(graph, ("number", 2, word)), other != 0)

    def test_same(self):
        self.assertIs(is_due(TWO, ("same", 1, 2)), False)
        self.assertIs(is_due(SIX, ("same", 3, 2)), True)
        self.assertIs(is_due(SIX, ("same", 2, 3)), False)
        # Nothing reads the copy.
        self.assertIs(is_due(done(TWO, ("same", 2, 1)), ("same", 2, 1)), False)
        # What is handed is read; notes of div and rem may differ, words of number steps not.
        graph = ("g", 1, (((0, 1), (((2,), "div", (0, 1), 0), ((3,), "div", (0, 1), 1), ((4,), "number", (), 5), ((5,), "number", (), 5),
                                    ((6,), "number", (), 6), ((7,), "rem", (0, 1), 2)), ("to", 1, (3, 5, 6, 7))),
                          ((8, 9, 10, 11), (), ("give", (8,)))))
        self.assertEqual([deed for deed in all_deeds(graph) if deed[0] == "same" and is_due(graph, deed)],
                         [("same", 3, 2), ("same", 5, 4), ("same", 8, 3)])

    def test_take(self):
        self.assertIs(is_due(LOOP, ("same", 2, 0)), False)
        graph = ("g", 1, (((0, 1), (BEAT,), ("to", 1, (0, 1))), ((2, 3), (BEAT,), ("by", 3, 2, 3)), ((), (), ("to", 1, (2, 2))),
                          ((), (), ("give", (2,)))))
        self.assertIs(is_due(graph, ("same", 2, 0)), True)
        self.assertIs(is_due(graph, ("same", 3, 1)), False)
        self.assertIs(is_due(graph, ("same", 2, 2)), False)
        self.assertIs(is_due(graph, ("same", 0, 1)), False)

    def test_drop(self):
        self.assertIs(is_due(TWO, ("drop", (2,))), False)
        graph = done(TWO, ("same", 2, 1))
        self.assertEqual([mark for mark in range(6) if is_due(graph, ("drop", (mark,)))], [2])
        # Marks that only they themselves read go together.
        round_and_round = ("g", 1, (((0,), (((1,), "number", (), 5),), ("to", 1, (0, 1))),
                                    ((2, 3), (BEAT, ((4,), "add", (3, 3), 0)), ("by", 2, 2, 3)),
                                    ((), (), ("to", 1, (2, 4))), ((), (), ("give", (2,)))))
        due = [marks for marks in ((1,), (3,), (4,), (1, 3), (1, 4), (3, 4), (1, 3, 4), (2, 3, 4), (0, 1, 3, 4), (3, 4, 9))
               if is_due(round_and_round, ("drop", marks))]
        self.assertEqual(due, [(3, 4), (1, 3, 4)])

    def test_what_may_fail_stays(self):
        for other, due in ((0, False), (3, True)):
            graph = ("g", 1, (((0,), (((1,), "number", (), other), ((2,), "div", (0, 1), 4)), ("give", (0,))),))
            self.assertIs(is_due(graph, ("drop", (2,))), due)
        graph = ("g", 1, (((0,), (((1,), "call", (), ("f", 0)), ((2,), "rem", (0, 1), 4)), ("give", (0,))),))
        self.assertEqual([is_due(graph, ("drop", (mark,))) for mark in (0, 1, 2)], [False] * 3)

    def test_blocks(self):
        self.assertEqual([is_due(PICK, (word, block)) for word in ("straight", "join") for block in range(5)],
                         [True, False, False, False, False] + [False] * 5)
        line = ("g", 1, (((0,), (), ("to", 2, (0,))), ((3,), (), ("give", (3,))), ((1,), (), ("to", 1, (1,)))))
        self.assertEqual([block for block in range(4) if is_due(line, ("join", block))], [0, 2])

    def test_ahead(self):
        self.assertEqual([deed for deed in all_deeds(LOOP) if deed[0] == "ahead" and is_due(LOOP, deed)],
                         [("ahead", 4, 1), ("ahead", 5, 0), ("ahead", 5, 1)])

    def test_random_graphs(self):
        source = random.Random(7)
        met = set()
        for graph in settled_graphs(45, seed=205, most_blocks=6, most_steps=3, few_words=True):
            for deed in all_deeds(graph) + some_drops(graph, source):
                due = oracles.is_due(graph, deed) if deed[0] != "drop" or deed[1] != (10 ** 6,) else False
                self.assertIs(is_due(graph, deed), bool(due), (graph, deed))
                if due:
                    met.add(deed[0])
                    self.assertEqual(done(graph, deed), oracles.done(graph, deed))
                    self.assertTrue(is_settled(done(graph, deed)))
                else:
                    self.assertEqual(refusal(done, graph, deed), unusable("deed"))
        self.assertEqual(met, {"number", "same", "drop", "straight", "join", "ahead"})

    def test_due_folds_are_those_due(self):
        for graph in settled_graphs(40, seed=206, few_words=True):
            due = [deed for deed in all_deeds(graph) if deed[0] in ("number", "same") and is_due(graph, deed)]
            self.assertEqual(due_folds(graph), tuple(sorted(set(due))))

    def test_refusals(self):
        for thing in NO_DEEDS:
            self.assertEqual(refusal(is_due, TWO, thing), unusable("deed"))
            self.assertEqual(refusal(done, TWO, thing), unusable("deed"))
        for deed in (("drop", (2,)), ("number", 9, 1), ("same", 9, 1), ("same", 2, 9), ("join", 0), ("straight", 7), ("ahead", 3, 5),
                     ("ahead", 9, 0), ("drop", (9,)), ("join", 4)):
            self.assertIs(is_due(TWO, deed), False)
            self.assertEqual(refusal(done, TWO, deed), unusable("deed"))

    def test_by_name(self):
        self.assertIs(is_due(deed=("same", 2, 1), graph=TWO), True)
        self.assertEqual(done(deed=("same", 2, 1), graph=TWO), done(TWO, ("same", 2, 1)))


class DoneTest(unittest.TestCase):
    def test_examples(self):
        self.assertEqual(done(PICK, ("straight", 0)), ("pick", 1, (
            ((0,), (BEAT, ((1,), "number", (), 0)), ("to", 1, ())), ((), (), ("to", 2, (0,))), ((2,), (), ("give", (2,))))))
        self.assertEqual(refusal(done, TWO, ("drop", (2,))), unusable("deed"))

    def test_each_deed(self):
        self.assertEqual(done(SIX, ("number", 3, 6))[2][0][1][4], ((3,), "number", (), 6))
        self.assertEqual(done(TWO, ("same", 2, 1))[2][0][1][2:], (((2,), "copy", (1,), 0), ((3,), "add", (1, 0), 0)))
        self.assertEqual(done(LOOP, ("ahead", 5, 0))[2][0], (
            (0,), (BEAT, ((1,), "number", (), 0), ((5,), "number", (), 1)), ("to", 1, (0, 1))))
        straight = done(PICK, ("straight", 0))
        self.assertEqual(done(straight, ("join", 1))[2], (
            ((0,), (BEAT, ((1,), "number", (), 0)), ("to", 1, ())), ((), (), ("give", (0,)))))
        graph = ("g", 1, (((0, 1), (BEAT,), ("to", 1, (0, 1))), ((2, 3), (((4,), "copy", (3,), 0),), ("give", (2,)))))
        self.assertEqual(done(graph, ("same", 2, 0))[2][1], ((2, 3), (((4,), "copy", (3,), 0),), ("give", (0,))))
        self.assertEqual(done(graph, ("drop", (3, 4)))[2], (((0, 1), (BEAT,), ("to", 1, (0,))), ((2,), (), ("give", (2,)))))

    def test_a_straight_deed_may_leave_out_many_blocks(self):
        graph = ("g", 0, (((), (BEAT, ((0,), "number", (), 3)), ("by", 0, 5, 1)), ((), (), ("by", 0, 2, 3)), ((), (), ("to", 4, (0,))),
                          ((), (), ("to", 4, (0,))), ((1,), (), ("give", ())), ((), (), ("give", ()))))
        self.assertEqual(done(graph, ("straight", 0)), ("g", 0, (
            ((), (BEAT, ((0,), "number", (), 3)), ("to", 1, ())), ((), (), ("give", ())))))


class WalkTest(unittest.TestCase):
    def test_examples(self):
        self.assertEqual(lets_deeds(TWO, (("same", 2, 1), ("drop", (2,))))[2][0][1][2:], (((3,), "add", (1, 0), 0),))
        self.assertEqual(refusal(lets_deeds, TWO, (("drop", (2,)), ("join",))), ("InvalidPaper", {"word": "due", "at": 0}))

    def test_no_deeds(self):
        self.assertEqual(lets_deeds(TWO, ()), TWO)

    def test_refusals(self):
        for thing in [thing for thing in ODD_VALUES if not isinstance(thing, tuple)] + [[("same", 2, 1)]]:
            self.assertEqual(refusal(lets_deeds, TWO, thing), ("InvalidPaper", {"word": "list", "at": -1}))
        for thing in NO_DEEDS:
            self.assertEqual(refusal(lets_deeds, TWO, (thing, ("drop", (2,)))), ("InvalidPaper", {"word": "deed", "at": 0}))
            self.assertEqual(refusal(lets_deeds, TWO, (("same", 2, 1), thing)), ("InvalidPaper", {"word": "deed", "at": 1}))
        twice = (("same", 2, 1), ("same", 2, 1), None)
        self.assertEqual(refusal(lets_deeds, TWO, twice), ("InvalidPaper", {"word": "due", "at": 1}))

    def test_pass_deeds_of_random_graphs(self):
        rows = (("fold",), ("drop",), ("straighten",), ("lift",), ("straighten", "fold", "drop", "lift", "straighten"))
        for graph in settled_graphs(60, seed=207, few_words=True):
            for names in rows:
                self.assertEqual(lets_deeds(graph, pass_deeds(graph, names)), passed(graph, names))
            self.assertEqual(lets_deeds(graph, fold_deeds(graph)), folded(graph))

    def test_many_deeds(self):
        steps = [BEAT, ((0,), "number", (), 1)] + [((mark,), "add", (mark - 1, 0), 0) for mark in range(1, 300)]
        graph = ("long", 1, (((), tuple(steps), ("give", (299,))),))
        deeds = pass_deeds(graph, ("fold", "drop"))
        self.assertEqual(lets_deeds(graph, deeds), ("long", 1, (((), (BEAT, ((299,), "number", (), 300)), ("give", (299,))),)))

    def test_by_name(self):
        self.assertEqual(lets_deeds(thing=(("same", 2, 1),), graph=TWO), done(TWO, ("same", 2, 1)))


def due_deeds(graph, source):
    deeds = list(due_folds(graph)) + [(word, block) for word in ("straight", "join") for block in range(len(graph[2]))]
    marks = oracles.marks_of(graph)
    deeds += [("ahead", mark, block) for mark in marks for block in range(len(graph[2]))]
    spare = spare_marks(graph)
    deeds += [("drop", spare)] * 2 if spare else []
    source.shuffle(deeds)
    return deeds


class AnyDeedsTest(unittest.TestCase):
    def some_walk(self, graph, source, many):
        deeds = []
        behind = graph
        for _ in range(many):
            due = [deed for deed in due_deeds(behind, source)[:30] if is_due(behind, deed)]
            if due:
                deeds.append(due[0])
                behind = done(behind, due[0])
        return tuple(deeds), behind

    def test_outcomes_of_random_graphs(self):
        source = random.Random(8)
        for graph in settled_graphs(60, seed=208, calls=False, few_words=True):
            deeds, behind = self.some_walk(graph, source, 12)
            self.assertTrue(same_kind(lets_deeds(graph, deeds), behind))
            self.assertTrue(is_settled(behind))
            for words in ((0, 1, 2), (65535, 3, 0)):
                args = words[:len(graph[2][0][0])]
                self.assertEqual(oracles.run_settled(behind, args, 30), oracles.run_settled(graph, args, 30))

    def test_outcomes_of_units(self):
        source = random.Random(9)
        for seed, units in enumerate(bound_units(40, seed=63)):
            graphs = tuple(settled(graph_of(unit, function[0])) for unit in units for function in unit[3])
            behind = tuple(self.some_walk(graph, source, 15)[1] for graph in graphs)
            for most in (2, 60):
                args = some_args(units, seed)
                self.assertEqual(GraphRun(behind, most).outcome(args), TreeRun(units, most).outcome(args))

    def test_number_and_same_deeds_in_any_order(self):
        source = random.Random(10)
        for graph in settled_graphs(40, seed=209, most_blocks=7, few_words=True):
            behind = graph
            due = due_folds(behind)
            while due:
                behind = done(behind, source.choice(due))
                due = due_folds(behind)
            self.assertEqual(behind, folded(graph))


if __name__ == "__main__":
    unittest.main()
