import unittest

from linkneed.judging import judge_unit
from tests.checks import refusal, unusable
from tests.samples import CASES, DOWN, MAIN, ODD_VALUES, PAIRS, TWICE
from tests.unitsamples import bound_units

ZERO = ("number", 0)
P = ("name", "p")
N = ("name", "n")
O = ("name", "o")
BAD = ("name", "bad")

# pair and twin have one structure; opt has two cases; box holds a pair.
SHAPES = (
    ("pair", (("both", ("word", "word")),)), ("twin", (("two", ("word", "word")),)),
    ("opt", (("no", ()), ("yes", ("pair",)))), ("box", (("in", ("pair",)),)))
USES = (("u", ("pair", "word"), "twin"), ("z", (), "word"))
MAKE = ("case", "pair", "both", (ZERO, ZERO))
TWIN = ("case", "twin", "two", (ZERO, ZERO))


def unit_with(body, params=(("p", "pair"), ("n", "word"), ("o", "opt")), gives="word"):
    return ("t", SHAPES, USES, (("f", params, gives, tuple(body)),))


def found(body, **more):
    """The word and the path from the body on of what is unfit."""
    name, fields = refusal(judge_unit, unit_with(body, **more))
    assert name == "Unfit" and fields["path"][:3] == (3, 0, 3), (name, fields)
    return (fields["word"], fields["path"][3:])


def found_in_head(unit):
    name, fields = refusal(judge_unit, unit)
    assert name == "Unfit", name
    return (fields["word"], fields["path"])


class HeadsTest(unittest.TestCase):
    def test_example(self):
        self.assertEqual(judge_unit(MAIN), 5)
        self.assertEqual(refusal(judge_unit, MAIN[:2] + ((),) + MAIN[3:]),
                         ("Unfit", {"word": "unknown", "path": (3, 0, 3, 0, 2)}))

    def test_fit_units(self):
        self.assertEqual([judge_unit(unit) for unit in (TWICE, PAIRS, CASES, DOWN, ("u", (), (), ()))], [3, 0, 10, 5, 0])

    def test_random_fit_units(self):
        for units in bound_units(60, seed=1):
            for unit in units:
                text = repr(unit)
                words = ("'number'", "'name'", "'call'", "'case'", "'add'", "'sub'", "'mul'", "'div'", "'rem'", "'less'",
                         "'same'")
                self.assertEqual(judge_unit(unit), sum(text.count(word) for word in words))

    def test_refused_forms(self):
        for thing in ODD_VALUES + (MAIN[:3], list(MAIN), ("unit", (), (), ()), ("u", (("s", ()),), (), ())):
            self.assertEqual(refusal(judge_unit, thing), unusable("unit"))

    def test_shapes(self):
        self.assertEqual(found_in_head(("t", SHAPES[:2] + (("pair", (("x", ("gone",)),)),), (), ())), ("twice", (1, 2)))
        self.assertEqual(found_in_head(("t", (("s", (("a", ()), ("b", ()), ("a", ("gone",)))),), (), ())),
                         ("twice", (1, 0, 1, 2)))
        self.assertEqual(found_in_head(("t", (("s", (("a", ("word", "gone")), ("a", ()))),), (), ())),
                         ("unknown", (1, 0, 1, 0, 1, 1)))

    def test_only_earlier_shapes_are_fields(self):
        self.assertEqual(found_in_head(("t", (("s", (("a", ("s",)),)),), (), ())), ("unknown", (1, 0, 1, 0, 1, 0)))
        self.assertEqual(found_in_head(("t", (("s", (("a", ("r",)),)), ("r", (("a", ()),))), (), ())),
                         ("unknown", (1, 0, 1, 0, 1, 0)))
        self.assertEqual(judge_unit(("t", (("r", (("a", ()),)), ("s", (("a", ("r", "r")),))), (), ())), 0)

    def test_one_title_for_cases_of_two_shapes(self):
        self.assertEqual(judge_unit(("t", (("r", (("r", ()),)), ("s", (("r", ()), ("s", ())))), (), ())), 0)

    def test_all_of_a_shape_comes_ahead_of_the_next(self):
        shapes = (("s", (("a", ("gone",)),)), ("s", (("a", ()), ("a", ()))))
        self.assertEqual(found_in_head(("t", shapes, (), ())), ("unknown", (1, 0, 1, 0, 1, 0)))

    def test_uses(self):
        self.assertEqual(found_in_head(("t", SHAPES, USES + (("u", ("gone",), "word"),), ())), ("twice", (2, 2)))
        self.assertEqual(found_in_head(("t", SHAPES, (("u", ("pair", "gone"), "lost"),), ())), ("unknown", (2, 0, 1, 1)))
        self.assertEqual(found_in_head(("t", SHAPES, (("u", ("pair",), "lost"),), ())), ("unknown", (2, 0, 2)))
        self.assertEqual(found_in_head(("t", SHAPES, (("u", (), "lost"), ("u", (), "word")), ())), ("unknown", (2, 0, 2)))

    def test_functions_without_bodies(self):
        def one(title, params, gives):
            return (title, params, gives, ())
        self.assertEqual(found_in_head(("t", (), (("f", (), "word"),), (one("f", (("a", "gone"),), "word"),))),
                         ("twice", (3, 0)))
        self.assertEqual(found_in_head(("t", (), (), (one("f", (), "word"), one("g", (), "word"), one("f", (), "gone")))),
                         ("twice", (3, 2)))
        self.assertEqual(found_in_head(("t", (), (), (one("f", (("a", "word"), ("b", "word"), ("a", "gone")), "word"),))),
                         ("twice", (3, 0, 1, 2)))
        self.assertEqual(found_in_head(("t", (), (), (one("f", (("a", "gone"), ("a", "word")), "lost"),))),
                         ("unknown", (3, 0, 1, 0, 1)))
        self.assertEqual(found_in_head(("t", (), (), (one("f", (("a", "word"),), "lost"),))), ("unknown", (3, 0, 2)))

    def test_titles_of_different_things_may_be_equal(self):
        unit = ("f", (("f", (("f", ()),)),), (), (("f", (("f", "f"),), "f", (("give", ("name", "f")),)),))
        self.assertEqual(judge_unit(unit), 1)

    def test_shapes_then_uses_then_functions_then_bodies(self):
        bad_shape = ("s", (("a", ("gone",)),))
        bad_use = ("u", (), "gone")
        bad_function = ("f", (), "gone", (("tell", BAD),))
        bad_body = ("g", (), "word", (("tell", BAD),))
        self.assertEqual(found_in_head(("t", (bad_shape,), (bad_use,), (bad_body, bad_function)))[1][0], 1)
        self.assertEqual(found_in_head(("t", (), (bad_use,), (bad_body, bad_function)))[1][0], 2)
        self.assertEqual(found_in_head(("t", (), (), (bad_body, bad_function)))[1], (3, 1, 2))
        self.assertEqual(found_in_head(("t", (), (), (bad_body,)))[1], (3, 0, 3, 0, 1))

    def test_bodies_in_order(self):
        first = ("f", (), "word", (("tell", ZERO),))
        second = ("g", (), "word", (("tell", ("call", "f", (ZERO,))), ("tell", BAD)))
        self.assertEqual(found_in_head(("t", (), (), (first, second, second[:3] + (second[3][1:],))[:2])),
                         ("many", (3, 1, 3, 0, 1)))

    def test_by_name(self):
        self.assertEqual(judge_unit(unit=MAIN), 5)


class ExpressionsTest(unittest.TestCase):
    def test_names(self):
        self.assertEqual(found((("tell", BAD),)), ("unknown", (0, 1)))
        self.assertEqual(found((("tell", ("name", "f")),)), ("unknown", (0, 1)))
        self.assertEqual(found((("tell", P),)), ("kind", (0, 1)))

    def test_operations(self):
        self.assertEqual(judge_unit(unit_with((("tell", ("add", N, ("sub", ZERO, N))),))), 5)
        self.assertEqual(found((("tell", ("add", P, BAD)),)), ("kind", (0, 1, 1)))
        self.assertEqual(found((("tell", ("add", ("mul", N, O), BAD)),)), ("kind", (0, 1, 1, 2)))
        self.assertEqual(found((("tell", ("add", N, P)),)), ("kind", (0, 1, 2)))
        self.assertEqual(found((("tell", ("add", BAD, P)),)), ("unknown", (0, 1, 1)))

    def test_calls(self):
        self.assertEqual(judge_unit(unit_with((("let", "a", ("call", "u", (TWIN, N))),))), 5)
        self.assertEqual(judge_unit(unit_with((("tell", ("call", "f", (P, ("call", "z", ()), O))),))), 4)
        self.assertEqual(found((("tell", ("call", "pair", (BAD,))),)), ("unknown", (0, 1)))
        self.assertEqual(found((("tell", ("call", "u", (BAD,))),)), ("many", (0, 1)))
        self.assertEqual(found((("tell", ("call", "z", (BAD,))),)), ("many", (0, 1)))
        self.assertEqual(found((("tell", ("call", "u", (O, BAD))),)), ("kind", (0, 1, 2, 0)))
        self.assertEqual(found((("tell", ("call", "u", (P, BAD))),)), ("unknown", (0, 1, 2, 1)))
        self.assertEqual(found((("tell", ("call", "u", (P, N))),)), ("kind", (0, 1)))

    def test_cases(self):
        self.assertEqual(judge_unit(unit_with((("let", "a", ("case", "opt", "yes", (TWIN,))),))), 4)
        self.assertEqual(found((("let", "a", ("case", "gone", "both", (BAD,))),)), ("unknown", (0, 2)))
        self.assertEqual(found((("let", "a", ("case", "pair", "two", (BAD,))),)), ("unknown", (0, 2)))
        self.assertEqual(found((("let", "a", ("case", "pair", "both", (BAD,))),)), ("many", (0, 2)))
        self.assertEqual(found((("let", "a", ("case", "opt", "no", (BAD,))),)), ("many", (0, 2)))
        self.assertEqual(found((("let", "a", ("case", "pair", "both", (P, BAD))),)), ("kind", (0, 2, 3, 0)))
        self.assertEqual(found((("let", "a", ("case", "pair", "both", (N, BAD))),)), ("unknown", (0, 2, 3, 1)))
        self.assertEqual(found((("let", "a", ("case", "opt", "yes", (("case", "box", "in", (P,)),))),)), ("kind", (0, 2, 3, 0)))


class StatementsTest(unittest.TestCase):
    def test_let(self):
        self.assertEqual(judge_unit(unit_with((("let", "a", N), ("tell", ("name", "a"))))), 2)
        self.assertEqual(found((("let", "n", BAD),)), ("unknown", (0, 2)))
        self.assertEqual(found((("let", "n", P),)), ("twice", (0,)))
        self.assertEqual(found((("let", "a", ("name", "a")),)), ("unknown", (0, 2)))
        self.assertEqual(found((("let", "a", N), ("let", "a", N))), ("twice", (1,)))
        self.assertEqual(found((("let", "a", P), ("tell", ("name", "a")))), ("kind", (1, 1)))

    def test_set(self):
        self.assertEqual(judge_unit(unit_with((("set", "p", TWIN), ("set", "n", N)))), 4)
        self.assertEqual(found((("set", "a", BAD),)), ("unknown", (0, 2)))
        self.assertEqual(found((("set", "a", N),)), ("unknown", (0,)))
        self.assertEqual(found((("set", "n", P),)), ("kind", (0, 2)))
        self.assertEqual(found((("set", "p", ("case", "box", "in", (P,))),)), ("kind", (0, 2)))

    def test_if_and_loop(self):
        for head, bodies in (("if", 2), ("loop", 1)):
            empty = ((),) * bodies
            self.assertEqual(judge_unit(unit_with(((head, N) + empty,))), 1)
            self.assertEqual(found(((head, P) + ((("tell", BAD),),) * bodies,)), ("kind", (0, 1)))
            self.assertEqual(found(((head, BAD) + empty,)), ("unknown", (0, 1)))
            self.assertEqual(found(((head, N) + ((("tell", N), ("tell", BAD)),) * bodies,)), ("unknown", (0, 2, 1, 1)))
        self.assertEqual(found((("if", N, (), (("tell", BAD),)),)), ("unknown", (0, 3, 0, 1)))

    def test_tell_and_give(self):
        self.assertEqual(found((("tell", O),)), ("kind", (0, 1)))
        self.assertEqual(found((("give", P),)), ("kind", (0, 1)))
        self.assertEqual(found((("give", N),), gives="pair"), ("kind", (0, 1)))
        self.assertEqual(judge_unit(unit_with((("give", TWIN), ("give", P)), gives="pair")), 4)

    def test_what_stands_behind_a_give_is_judged(self):
        self.assertEqual(found((("give", N), ("tell", BAD))), ("unknown", (1, 1)))

    def test_what_a_body_names_is_not_seen_behind_it(self):
        inner = (("let", "a", N), ("tell", ("name", "a")))
        tell = ("tell", ("name", "a"))
        for statement in (("if", N, inner, ()), ("if", N, (), inner), ("loop", N, inner)):
            self.assertEqual(found((statement, tell)), ("unknown", (1, 1)))
            judge_unit(unit_with((statement, ("let", "a", P))))
        judge_unit(unit_with((("if", N, inner, inner),)))
        self.assertEqual(found((("if", N, inner, (tell,)),)), ("unknown", (0, 3, 0, 1)))
        self.assertEqual(found((("let", "a", N), ("loop", N, inner))), ("twice", (1, 2, 0)))

    def test_seen_in_inner_bodies(self):
        judge_unit(unit_with((("let", "a", N), ("loop", ("name", "a"), (("if", ("name", "a"), (("set", "a", N),), ()),)))))

    def test_when(self):
        arms = (((), ()), (("a",), (("when", ("name", "a"), ((("b", "c"), (("tell", ("name", "c")),)),)),)))
        self.assertEqual(judge_unit(unit_with((("when", O, arms),))), 3)
        self.assertEqual(found((("when", BAD, arms),)), ("unknown", (0, 1)))
        self.assertEqual(found((("when", N, arms),)), ("kind", (0, 1)))
        self.assertEqual(found((("when", O, arms[:1]),)), ("many", (0,)))
        self.assertEqual(found((("when", P, arms),)), ("many", (0,)))
        self.assertEqual(found((("when", O, ((("a",), (("tell", BAD),)), arms[1])),)), ("many", (0, 2, 0)))
        self.assertEqual(found((("when", O, (arms[0], ((), ()))),)), ("many", (0, 2, 1)))
        self.assertEqual(found((("when", P, ((("a",), ()),)),)), ("many", (0, 2, 0)))

    def test_titles_of_arms(self):
        self.assertEqual(found((("when", P, ((("a", "n"), (("tell", BAD),)),)),)), ("twice", (0, 2, 0)))
        self.assertEqual(found((("when", P, ((("a", "a"), (("tell", BAD),)),)),)), ("twice", (0, 2, 0)))
        self.assertEqual(found((("when", O, (((), (("tell", BAD),)), (("n",), ()))),)), ("unknown", (0, 2, 0, 1, 0, 1)))
        arm = (("a", "b"), (("tell", ("name", "b")),))
        self.assertEqual(found((("when", P, (arm,)), ("tell", ("name", "b")))), ("unknown", (1, 1)))
        judge_unit(unit_with((("when", P, (arm,)), ("when", P, (arm,)), ("let", "a", N))))
        self.assertEqual(found((("let", "b", N), ("when", P, (arm,)))), ("twice", (1, 2, 0)))

    def test_arms_see_the_kinds_of_fields(self):
        self.assertEqual(found((("when", O, (((), ()), (("a",), (("tell", ("name", "a")),)))),)), ("kind", (0, 2, 1, 1, 0, 1)))
        judge_unit(unit_with((("when", O, (((), ()), (("a",), (("set", "p", ("name", "a")),)))),)))


if __name__ == "__main__":
    unittest.main()
