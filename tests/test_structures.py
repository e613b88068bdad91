import unittest

from linkneed.structures import noughts_of, signature_of, structure_of, width_of
from tests.checks import refusal, unusable
from tests.samples import CASES, MAIN, ODD_VALUES, PAIRS, TWICE
from tests.unitsamples import bound_units, structure, width

PAIR = (("word", "word"),)
MAYBE = ((), (PAIR,))
EMPTY = ((),)
FLAG = ((), ())
SHAPES = ("c", (
    ("none", (("only", ()),)), ("flag", (("off", ()), ("on", ()))), ("both", (("b", ("flag", "none", "word")),)),
    ("any", (("x", ("both", "both")), ("y", ()), ("z", ("word",))))),
    (("u", ("flag", "word"), "any"), ("v", (), "none")), (("f", (("p", "both"), ("q", "none")), "flag", ()),))


class StructuresTest(unittest.TestCase):
    def test_example(self):
        self.assertEqual(structure_of(PAIRS, "maybe"), ((), ((("word", "word"),),)))
        self.assertEqual(width_of(structure_of(PAIRS, "maybe")), 3)
        self.assertEqual(signature_of(MAIN, "twice"), (("word",), "word"))

    def test_structures(self):
        self.assertEqual([structure_of(PAIRS, "word"), structure_of(PAIRS, "pair"), structure_of(CASES, "opt")],
                         ["word", PAIR, ((), ("word",))])
        both = ((FLAG, EMPTY, "word"),)
        self.assertEqual([structure_of(SHAPES, kind) for kind in ("none", "flag", "both", "any")],
                         [EMPTY, FLAG, both, ((both, both), (), ("word",))])

    def test_widths_and_noughts(self):
        for shape, many in (("word", 1), (EMPTY, 0), (FLAG, 1), (PAIR, 2), (MAYBE, 3), (((MAYBE, PAIR),), 5),
                            (((), ("word",)), 2), (((EMPTY, EMPTY), (EMPTY,)), 1), (((EMPTY,),), 0),
                            (((PAIR,), ("word", "word", "word"), ()), 4)):
            self.assertEqual(width_of(shape), many)
            self.assertEqual(noughts_of(shape), (0,) * many)

    def test_signatures(self):
        self.assertEqual(signature_of(TWICE, "twice"), (("word",), "word"))
        self.assertEqual(signature_of(MAIN, "main"), (("word",), "word"))
        self.assertEqual(signature_of(SHAPES, "u"), ((FLAG, "word"), structure_of(SHAPES, "any")))
        self.assertEqual(signature_of(SHAPES, "v"), ((), EMPTY))
        self.assertEqual(signature_of(SHAPES, "f"), ((structure_of(SHAPES, "both"), EMPTY), FLAG))

    def test_random_units(self):
        for units in bound_units(40, seed=5):
            for unit in units:
                for kind in ["word"] + [title for title, _ in unit[1]]:
                    shape = structure(unit[1], kind)
                    self.assertEqual([structure_of(unit, kind), width_of(shape)], [shape, width(shape)])

    def test_refusals(self):
        for thing in [thing for thing in ODD_VALUES if thing != "word"] + ["none", "words", ["word"], ("word",), PAIR]:
            self.assertEqual(refusal(structure_of, PAIRS, thing), unusable("kind"))
        for thing in ODD_VALUES + ("b", "n", "mains", ["main"], ("main",)):
            self.assertEqual(refusal(signature_of, MAIN, thing), ("Missing", {"title": thing}))
        self.assertEqual(refusal(signature_of, CASES, "opt"), ("Missing", {"title": "opt"}))

    def test_by_name(self):
        self.assertEqual([structure_of(kind="word", unit=PAIRS), width_of(structure=PAIR), noughts_of(structure=PAIR)],
                         ["word", 2, (0, 0)])
        self.assertEqual(signature_of(title="main", unit=MAIN), (("word",), "word"))


if __name__ == "__main__":
    unittest.main()
