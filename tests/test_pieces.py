import unittest

from linkneed.compiling import compile_unit
from linkneed.graphing import graph_of
from linkneed.needing import own_need
from linkneed.passes import passed
from linkneed.pieces import piece_of
from linkneed.rowkinds import is_object, is_piece
from linkneed.settling import settled
from linkneed.structures import signature_of
from linkneed.transferring import transfer_rows
from tests import oracles
from tests.checks import refusal, unusable
from tests.samples import (
    A, ALONE, B, BEAT, CASES, FAR, LOOP, MAIN, ODD_VALUES, ONE, PAIR, PAIRS, PICK, RING, ROUND, TWICE, TWO, settled_graphs)
from tests.unitsamples import bound_units


def told_rows(graph, table, number):
    """The rows of a block by the words of the document."""
    rows = []
    for index, (makes, verb, reads, note) in enumerate(graph[2][number][1]):
        ahead = {mark: place for place, mark in enumerate(table[number][index]) if mark is not None}
        behind = {mark: place for place, mark in enumerate(table[number][index + 1]) if mark is not None}
        if verb == "copy":
            if behind[makes[0]] != ahead[reads[0]]:
                rows.append(("move", behind[makes[0]], ahead[reads[0]]))
        elif verb == "call":
            across = sorted(oracles.across(graph, number, index), key=lambda mark: behind[mark])
            rows.append(("call",) + note + (tuple(ahead[mark] for mark in across), tuple(ahead[mark] for mark in reads),
                                            len(makes)))
        elif verb == "number":
            rows.append((verb, behind[makes[0]], note))
        else:
            cells = tuple(behind[mark] for mark in makes) + tuple(ahead[mark] for mark in reads)
            rows.append((verb,) + cells + ((note,) if verb in ("div", "rem") else ()))
    last = {mark: place for place, mark in enumerate(table[number][-1]) if mark is not None}
    ending = graph[2][number][2]
    if ending[0] == "give":
        return rows + list(transfer_rows(tuple((at, last[mark]) for at, mark in enumerate(ending[1])))) + [("back",)]
    if ending[0] == "by":
        rows.append(("nought", last[ending[1]], ending[3]))
        return rows + ([("jump", ending[2])] if ending[2] != number + 1 else [])
    handed = dict(zip(graph[2][ending[1]][0], ending[2]))
    pairs = tuple((place, last[handed.get(mark, mark)]) for place, mark in enumerate(table[ending[1]][0])
                  if mark is not None)
    return rows + list(transfer_rows(pairs)) + ([("jump", ending[1])] if ending[1] != number + 1 else [])


class PieceTest(unittest.TestCase):
    def test_examples(self):
        self.assertEqual(piece_of(LOOP, ("word",), "word"), ("sum", ("word",), "word", 3, (
            (("beat",), ("number", 1, 0)), (("beat",), ("nought", 0, 3)),
            (("add", 1, 1, 0), ("number", 2, 1), ("sub", 0, 0, 2), ("jump", 1)), (("move", 0, 1), ("back",)))))
        self.assertEqual(piece_of(ONE, ("word",), "word"), A)
        self.assertEqual(piece_of(ROUND, ("word",), "word"), RING)

    def test_copies(self):
        self.assertEqual(piece_of(TWO, ("word",), "word")[4], (
            (("beat",), ("call", "twice", 0, (0,), (0,), 1), ("add", 0, 1, 0), ("back",)),))
        graph = ("g", 2, (((0,), (BEAT, ((1,), "copy", (0,), 0)), ("give", (1, 0))),))
        self.assertEqual(piece_of(graph, ("word",), (("word", "word"),))[4], (
            (("beat",), ("move", 1, 0), ("swap", 0, 1), ("back",)),))

    def test_other_verbs(self):
        graph = ("g", 0, (((0, 1), (BEAT, ((2,), "div", (0, 1), 4), ((3,), "rem", (2, 1), 5), ((), "tell", (3,), 0)),
                           ("give", ())),))
        self.assertEqual(piece_of(graph, ("word", "word"), ((),))[4], (
            (("beat",), ("div", 0, 0, 1, 4), ("rem", 0, 0, 1, 5), ("tell", 0), ("back",)),))

    def test_calls(self):
        self.assertEqual(piece_of(FAR, ("word",) * 3, "word")[4], (
            (("call", "twice", 0, (2,), (0,), 1), ("add", 0, 0, 1), ("back",)),))
        graph = ("g", 1, (((0, 1, 2, 3, 4), (((5, 6), "call", (3, 0), ("f", 7)), ((7,), "add", (5, 1), 0),
                                            ((8,), "add", (7, 4), 0), ((9,), "add", (8, 6), 0)), ("give", (9,))),))
        self.assertEqual(piece_of(graph, ("word",) * 5, "word")[4][0][0], ("call", "f", 7, (4, 1), (3, 0), 2))

    def test_edges_and_jumps(self):
        self.assertEqual(piece_of(PICK, ("word",), "word")[4], (
            (("beat",), ("number", 1, 0), ("nought", 1, 2)), (("move", 0, 1), ("jump", 3)), (), (("back",),)))
        graph = ("g", 0, (((0,), (), ("by", 0, 2, 1)), ((), (), ("give", ())), ((), (), ("give", ()))))
        self.assertEqual(piece_of(graph, ("word",), ((),))[4], (
            (("nought", 0, 1), ("jump", 2)), (("back",),), (("back",),)))

    def test_own_counts_what_is_given(self):
        self.assertEqual(piece_of(PAIR, ("word",), (("word", "word"),)), (
            "pair", ("word",), (("word", "word"),), 2, ((("move", 1, 0), ("back",)),)))

    def test_random_graphs(self):
        for graph in settled_graphs(120, seed=41):
            takes, gives = ("word",) * len(graph[2][0][0]), (("word",) * graph[1],)
            table = oracles.stands_of(graph)
            piece = piece_of(graph, takes, gives)
            self.assertEqual(piece[:4], (graph[0], takes, gives, own_need(graph)))
            self.assertEqual(piece[4], tuple(tuple(told_rows(graph, table, number)) for number in range(len(graph[2]))))
            self.assertIs(is_piece(piece), True)

    def test_by_name(self):
        self.assertEqual(piece_of(gives="word", takes=("word",), graph=ONE), A)


class CompilingTest(unittest.TestCase):
    def test_examples(self):
        self.assertEqual(compile_unit(TWICE, ()), ((), (A,)))
        self.assertEqual(compile_unit(MAIN, ()), ((("twice", ("word",), "word"),), (B,)))
        self.assertEqual(compile_unit(ALONE, ()), ((), (
            ("main", (), "word", 1, ((("beat",), ("number", 0, 4), ("back",)),)),)))

    def test_uses_called_or_not(self):
        unit = ("c", PAIRS[1], (("z", ("pair",), "maybe"), ("a", ("word",), "pair")), ())
        pair = (("word", "word"),)
        self.assertEqual(compile_unit(unit, ("fold",)), ((("a", ("word",), pair), ("z", (pair,), ((), (pair,)))), ()))
        self.assertEqual(compile_unit(("c", (), (), ()), ()), ((), ()))

    def test_pieces_ascend(self):
        give = (("give", ("number", 1)),)
        unit = ("c", (), (), tuple((title, (), "word", give) for title in ("m", "b", "z", "a")))
        self.assertEqual([piece[0] for piece in compile_unit(unit, ())[1]], ["a", "b", "m", "z"])

    def test_passes_in_their_order(self):
        for names in ((), ("fold",), ("fold", "drop"), ("drop", "fold"), ("fold", "drop", "straighten", "lift", "fold")):
            for unit in (MAIN, CASES, TWICE):
                for title, _, _, _ in unit[3]:
                    graph = passed(settled(graph_of(unit, title)), names)
                    takes, gives = signature_of(unit, title)
                    self.assertIn(piece_of(graph, takes, gives), compile_unit(unit, names)[1])

    def test_objects(self):
        for units in bound_units(25, seed=42):
            for unit in units:
                for names in ((), ("fold", "drop"), ("straighten", "lift", "drop")):
                    made = compile_unit(unit, names)
                    self.assertIs(is_object(made), True)
                    self.assertEqual([piece[0] for piece in made[1]], sorted(function[0] for function in unit[3]))
                    self.assertEqual(made[0], tuple(sorted((title,) + signature_of(unit, title) for title, _, _ in unit[2])))

    def test_refusals(self):
        empty = ("c", (), (), ())
        for names in [thing for thing in ODD_VALUES if thing != ()] + [["fold"], "fold", ("folds",), ("fold", None), (["fold"],)]:
            self.assertEqual(refusal(compile_unit, MAIN, names), unusable("names"))
            self.assertEqual(refusal(compile_unit, empty, names), unusable("names"))

    def test_by_name(self):
        self.assertEqual(compile_unit(names=(), unit=TWICE), ((), (A,)))


if __name__ == "__main__":
    unittest.main()
