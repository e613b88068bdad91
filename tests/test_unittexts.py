import unittest

from linkneed.unittexts import unit_text
from tests.checks import refusal, unusable
from tests.samples import CASES, MAIN, ODD_VALUES, PAIRS, TWICE
from tests.unitsamples import bound_units

X = ("name", "x")
WHOLE = ("w", (("s", (("a", ()), ("b", ("word", "t")))), ("r", (("c", ()),))), (("u", (), "word"), ("v", ("s", "word"), "r")), (
    ("f", (), "s", ()),
    ("g", (("x", "word"), ("y", "s")), "word", (
        ("let", "z", ("case", "s", "b", (X, ("case", "r", "c", ())))),
        ("set", "z", ("call", "u", ())),
        ("tell", ("call", "v", (X, ("number", 65535)))),
        ("if", ("less", X, ("number", 0)), (("give", X),), ()),
        ("if", X, (), (("tell", X), ("tell", X))),
        ("loop", ("sub", ("div", X, X), ("rem", ("mul", X, X), X)), (("loop", X, ()),)),
        ("when", ("name", "y"), (((), ()), (("k", "m"), (("when", X, ((("q",), (("give", X),)),)),)))),
        ("give", ("same", ("add", X, X), X))))))
TEXT = """unit w
shape s
case a
case b word t
end
shape r
case c
end
use u gives word
use v s word gives r
function f gives s
end
function g gives word
take x word
take y s
let z (case s b x (case r c))
set z (call u)
tell (call v x 65535)
if (less x 0)
give x
else
end
if x
else
tell x
tell x
end
loop (sub (div x x) (rem (mul x x) x))
loop x
end
end
when y
case
case k m
when x
case q
give x
end
end
give (same (add x x) x)
end"""


class UnitTextsTest(unittest.TestCase):
    def test_example(self):
        self.assertEqual(unit_text(TWICE), "unit a\nfunction twice gives word\ntake x word\ngive (add x x)\nend")

    def test_all_forms(self):
        self.assertEqual(unit_text(WHOLE), TEXT)

    def test_small_units(self):
        self.assertEqual(unit_text(("u", (), (), ())), "unit u")
        self.assertEqual(unit_text(PAIRS), "unit c\nshape pair\ncase both word word\nend\nshape maybe\ncase none\n"
                                           "case some pair\nend")
        self.assertEqual(unit_text(MAIN).split("\n")[:2], ["unit b", "use twice word gives word"])
        self.assertEqual(unit_text(CASES).count("end"), 4)

    def test_it_need_not_be_fit(self):
        self.assertEqual(unit_text(("u", (("s", (("a", ("s",)), ("a", ()))),), (), ())),
                         "unit u\nshape s\ncase a s\ncase a\nend")

    def test_random_units(self):
        texts = {}
        for units in bound_units(80, seed=4):
            for unit in units:
                text = unit_text(unit)
                self.assertEqual(texts.setdefault(text, unit), unit)
                self.assertFalse(any(line != " ".join(line.split()) or not line for line in text.split("\n")))
                self.assertEqual(text.count("("), text.count(")"))
                self.assertNotIn("( ", text)
                self.assertNotIn(" )", text)

    def test_refusals(self):
        for thing in ODD_VALUES + (MAIN[:3], list(MAIN), ("unit", (), (), ()), ("u", [], (), ())):
            self.assertEqual(refusal(unit_text, thing), unusable("unit"))

    def test_by_name(self):
        self.assertEqual(unit_text(unit=("u", (), (), ())), "unit u")


if __name__ == "__main__":
    unittest.main()
