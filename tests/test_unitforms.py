import unittest

from linkneed.unitforms import is_body, is_expression, is_unit
from tests.samples import CASES, DOWN, MAIN, ODD_VALUES, OPERATIONS, PAIRS, TWICE

ZERO = ("number", 0)
X = ("name", "x")

EXPRESSIONS = (
    ZERO, ("number", 65535), X, ("call", "f", ()), ("call", "f", (X, ZERO)), ("case", "s", "c", ()),
    ("case", "s", "c", (("call", "f", (X,)),)), ("add", ("mul", X, X), ("div", ZERO, ZERO)),
) + tuple((operation, X, ZERO) for operation in OPERATIONS)

NO_EXPRESSIONS = (
    ("number", 65536), ("number", -1), ("number", True), ("number", "0"), ("number",), ("number", 0, 0), ("name", "Name"),
    ("name", "add"), ("name", ""), ("name", 1), ("name",), ("name", "x", "y"), ("call", "f"), ("call", "call", ()),
    ("call", "f", [X]), ("call", "f", (0,)), ("call", "f", X), ("call", "f", (), ()), ("case", "s", "c"),
    ("case", "s", "case", ()), ("case", "word", "c", ()), ("case", "s", "c", (None,)), ("case", "s", "c", (), ()),
    ("case", "s", (), "c"), ("add", X), ("add", X, X, X), ("add", X, 0), ("add", (X, X)), ("copy", X, X), ["number", 0],
    ("add", X, ["number", 0]), (["number"], 0), (("number", 0),), ("number", (0,)), ("NUMBER", 0), (None, None, None),
    ("tell", X), ("less", X, ("less", X, ("less", X, ()))),
)

STATEMENTS = (
    ("let", "x", ZERO), ("set", "x", X), ("if", X, (), ()), ("if", X, (("tell", X),), (("give", X),)), ("loop", X, ()),
    ("loop", X, (("loop", X, ()),)), ("when", X, (((), ()),)), ("when", X, ((("a", "a"), (("tell", X),)), ((), ()))),
    ("tell", X), ("give", ("call", "f", ())),
)

NO_STATEMENTS = (
    ("let", "let", ZERO), ("let", "x"), ("let", "x", ZERO, ZERO), ("let", "x", 0), ("set", X, X), ("if", X, ()),
    ("if", X, (), (), ()), ("if", X, [], ()), ("if", X, (), (X,)), ("if", (), (), ()), ("loop", X), ("loop", X, X),
    ("loop", X, (), ()), ("loop", X, (None,)), ("when", X), ("when", X, ()), ("when", X, [((), ())]), ("when", X, ((),)),
    ("when", X, (((), (), ()),)), ("when", X, ((("Name",), ()),)), ("when", X, (((), (X,)),)), ("when", X, ((("a",), []),)),
    ("when", X, (("a", ()),)), ("when", X, (((), ()), None)), ("when", 0, (((), ()),)), ("when", X, (((), ()),), ()),
    ("tell",), ("tell", X, X), ("tell", 0), ("give",), ("give", X, X), ["tell", X], (), ("beat", X), X, None, "tell", 7,
    (["let"], "x", ZERO),
)

BODY = (("give", ZERO),)
F = ("f", (), "word", BODY)
S = ("s", (("c", ()),))
U = ("u", ("word",), "s")

UNITS = (
    TWICE, MAIN, PAIRS, CASES, DOWN, ("u", (), (), ()), ("u", (S,), (U,), (F,)), ("u", (S, S), (U, U), (F, F)),
    ("u", (("s", (("c", ("word", "nowhere")), ("c", ())),),), (), ()), ("u", (), (("u", ("s", "t"), "word"),), ()),
    ("u", (), (), (("f", (("a", "s"), ("a", "word")), "t", ()),)),
)

NO_UNITS = (
    ("unit", (), (), ()), ("u", (), ()), ("u", (), (), (), ()), ("u", [], (), ()), ("u", (), [], ()), ("u", (), (), []),
    ("u", (), (), None), ["u", (), (), ()], ("u", (("s", ()),), (), ()), ("u", (("s", [("c", ())]),), (), ()),
    ("u", (("s", (("c", (), ()),)),), (), ()), ("u", (("s", (("c", ["word"]),)),), (), ()),
    ("u", (("s", (("c", ("words!",)),)),), (), ()), ("u", (("word", (("c", ()),)),), (), ()),
    ("u", (("s", (("case", ()),)),), (), ()), ("u", ("s",), (), ()), ("u", (), (("u", ()),), ()),
    ("u", (), (("u", (), "word", ()),), ()), ("u", (), (("u", "word", "word"),), ()), ("u", (), (("u", (), ""),), ()),
    ("u", (), (("use", (), "word"),), ()), ("u", (), (("u", ("number",), "word"),), ()), ("u", (), (), (("f", (), "word"),)),
    ("u", (), (), (("f", (), "word", None),)), ("u", (), (), (("f", (), "word", (X,)),)), ("u", (), (), (("f", (), (), ()),)),
    ("u", (), (), (("f", ("a", "word"), "word", ()),)), ("u", (), (), (("f", (("a",),), "word", ()),)),
    ("u", (), (), (("f", (("a", "word", ()),), "word", ()),)), ("u", (), (), (("f", [], "word", ()),)),
    ("u", (), (), (("f", (("add", "word"),), "word", ()),)), ("u", (), (), (("f", (("a", "add"),), "word", ()),)),
    ("u", (), (), (("let", (), "word", ()),)), ("u", (), (), (F, None)),
)


class UnitFormsTest(unittest.TestCase):
    def test_example(self):
        self.assertEqual([is_expression(("number", 65536)), is_expression(("call", "f", ()))], [False, True])

    def test_expressions(self):
        for thing in EXPRESSIONS:
            self.assertIs(is_expression(thing), True, thing)
        for thing in NO_EXPRESSIONS + ODD_VALUES + STATEMENTS:
            self.assertIs(is_expression(thing), False, thing)

    def test_bodies(self):
        self.assertIs(is_body(()), True)
        self.assertIs(is_body(STATEMENTS), True)
        for thing in STATEMENTS:
            self.assertIs(is_body((thing,)), True, thing)
            self.assertIs(is_body([thing]), False)
        for thing in NO_STATEMENTS:
            self.assertIs(is_body((thing,)), False, thing)
            self.assertIs(is_body((STATEMENTS[0], thing)), False, thing)
        for thing in NO_EXPRESSIONS:
            self.assertIs(is_body((("tell", thing),)), False, thing)

    def test_a_statement_is_no_body(self):
        for thing in STATEMENTS:
            self.assertIs(is_body(thing), False, thing)

    def test_units(self):
        for thing in UNITS:
            self.assertIs(is_unit(thing), True, thing)
        for thing in NO_UNITS + ODD_VALUES:
            self.assertIs(is_unit(thing), False, thing)
        for thing in NO_STATEMENTS:
            self.assertIs(is_unit(("u", (), (), (("f", (), "word", (thing,)),))), False, thing)

    def test_no_bound_counts(self):
        deep = X
        for _ in range(30):
            deep = ("add", deep, ZERO)
        self.assertIs(is_expression(deep), True)
        body = ()
        for _ in range(12):
            body = (("loop", X, body),)
        self.assertIs(is_body(body), True)
        self.assertIs(is_unit(("u", tuple((f"s{n}", (("c", ("word",) * 40),)) for n in range(40)), (), ())), True)

    def test_by_name(self):
        self.assertEqual([is_expression(thing=X), is_body(thing=()), is_unit(thing=TWICE)], [True] * 3)


if __name__ == "__main__":
    unittest.main()
