import unittest

from linkneed.binding import lets_units
from linkneed.bundling import bundle
from linkneed.compiling import compile_unit
from linkneed.prefixes import is_beginning
from linkneed.treeruns import run_units
from linkneed.uniting import as_one, split_up
from tests.checks import refusal, unusable
from tests.samples import ALONE, CASES, MAIN, ODD_VALUES, PAIRS, TWICE
from tests.unitsamples import bound_units, some_args

OPT, PT = (("no", ()), ("yes", ("word",))), (("at", ("word", "word")),)
FIRST = ("f", (("opt", OPT), ("pt", PT)), (("make", ("word",), "opt"),), (
    ("main", (("s0", "pt"), ("opt", "opt")), "pt", (
        ("let", "pt", ("case", "opt", "yes", (("number", 3),))),
        ("if", ("number", 1), (("set", "pt", ("call", "make", (("number", 2),))),), (("tell", ("number", 4)),)),
        ("loop", ("number", 0), (("set", "s0", ("case", "pt", "at", (("number", 1), ("add", ("number", 1), ("number", 2)))),),)),
        ("when", ("name", "pt"), (((), (("give", ("case", "pt", "at", (("number", 8), ("number", 9)))),)),
                                  (("x",), (("tell", ("name", "x")), ("set", "opt", ("case", "opt", "no", ())))))),
        ("give", ("name", "s0")))),
    ("spare", (), "opt", ())))
SECOND = ("g", (("pt", OPT), ("box", (("in", ("pt", "word")),))), (("main", ("box", "pt"), "box"),), (
    ("make", (("n", "word"),), "pt", (("give", ("case", "pt", "yes", (("name", "n"),))),)),))


class UnitingTest(unittest.TestCase):
    def test_examples(self):
        self.assertEqual(as_one((TWICE, MAIN), "all"), ("all", (), (), TWICE[3] + MAIN[3]))
        self.assertEqual(split_up((TWICE, MAIN)), (("u0", (), (), TWICE[3]), ("u1", (), MAIN[2], MAIN[3])))
        self.assertEqual(as_one((CASES,), "x")[1], (("s0", (("no", ()), ("yes", ("word",)))),))

    def test_all_that_names_a_shape_is_changed(self):
        one = as_one((FIRST, SECOND), "z9")
        self.assertEqual(one[:3], ("z9", (("s0", OPT), ("s1", PT), ("s2", OPT), ("s3", (("in", ("s2", "word")),))), ()))
        self.assertEqual(one[3], (
            ("main", (("s0", "s1"), ("opt", "s0")), "s1", (
                ("let", "pt", ("case", "s0", "yes", (("number", 3),))),
                ("if", ("number", 1), (("set", "pt", ("call", "make", (("number", 2),))),), (("tell", ("number", 4)),)),
                ("loop", ("number", 0), (
                    ("set", "s0", ("case", "s1", "at", (("number", 1), ("add", ("number", 1), ("number", 2)))),),)),
                ("when", ("name", "pt"), (((), (("give", ("case", "s1", "at", (("number", 8), ("number", 9)))),)),
                                          (("x",), (("tell", ("name", "x")), ("set", "opt", ("case", "s0", "no", ())))))),
                ("give", ("name", "s0")))),
            ("spare", (), "s0", ()),
            ("make", (("n", "word"),), "s2", (("give", ("case", "s2", "yes", (("name", "n"),))),))))

    def test_parts_of_expressions_are_changed_too(self):
        pair = ("case", "pr", "it", (("case", "in", "v", ()), ("call", "main", (("case", "in", "v", ()),))))
        unit = ("u", (("in", (("v", ()),)), ("pr", (("it", ("in", "in")),))), (), (
            ("main", (("x", "in"),), "in", (("let", "y", pair), ("when", ("name", "y"), ((("a", "b"), (("give", ("name", "b")),)),)))),))
        body = as_one((unit,), "v")[3][0][3]
        self.assertEqual(body[0][2], ("case", "s1", "it", (("case", "s0", "v", ()), ("call", "main", (("case", "s0", "v", ()),)))))
        self.assertEqual(body[1], unit[3][0][3][1])

    def test_split_up(self):
        units = split_up((FIRST, SECOND))
        self.assertEqual(units, (
            ("u0", FIRST[1], FIRST[2] + (("spare", (), "opt"),), FIRST[3][:1]),
            ("u1", FIRST[1], FIRST[2] + (("main", ("pt", "opt"), "pt"),), FIRST[3][1:]),
            ("u2", SECOND[1], SECOND[2], SECOND[3])))
        self.assertEqual(split_up((PAIRS, ALONE)), (("u0", (), (), ALONE[3]),))

    def test_bound_with_the_same_outcomes(self):
        for seed, units in enumerate(bound_units(60, seed=81)):
            one, parts = as_one(units, "one"), split_up(units)
            many = lets_units(units)
            self.assertEqual([lets_units((one,)), lets_units(parts), len(parts)], [many, many, many])
            for at in range(2):
                args = some_args(units, seed + at)
                for most in (0, 2, 40):
                    outcome = run_units(units, args, most)
                    self.assertEqual(run_units((one,), args, most), outcome)
                    self.assertEqual(run_units(parts, args, most), outcome)
            self.assertEqual(lets_units(split_up((one,))), many)
            self.assertEqual(as_one(parts, "one")[3], as_one((as_one(parts, "two"),), "one")[3])

    def test_compiled_to_one_bundle(self):
        for seed, units in enumerate(bound_units(40, seed=82)):
            names = ((), ("fold", "drop"), ("lift", "straighten"))[seed % 3]
            whole = bundle(tuple(compile_unit(unit, names) for unit in units))
            self.assertEqual(compile_unit(as_one(units, "one"), names), whole)
            self.assertEqual(bundle(tuple(compile_unit(unit, names) for unit in split_up(units))), whole)

    def test_no_titles(self):
        for name in ODD_VALUES + ("unit", "A", "a b", ["a"], "abcdefghijklm"):
            self.assertEqual(refusal(as_one, (TWICE, MAIN), name), unusable("name"))

    def test_by_name(self):
        self.assertEqual(as_one(name="x", units=(ALONE,)), ("x", (), (), ALONE[3]))
        self.assertEqual(split_up(units=(ALONE,)), (("u0", (), (), ALONE[3]),))


class PrefixTest(unittest.TestCase):
    def test_examples(self):
        self.assertIs(is_beginning(((2,), ("on",), 2), ((2, 1), ("on",), 3)), True)
        self.assertIs(is_beginning(((3,), ("on",), 2), ((2, 3), ("on",), 3)), False)

    def test_equal_ones(self):
        for outcome in (((), ("gave", (1,)), 2), ((1,), ("fault", "nought", "f", 0), 2), ((), ("on",), 0)):
            self.assertIs(is_beginning(outcome, outcome), True)

    def test_others(self):
        on = ((1, 2), ("on",), 4)
        for other, expected in ((((1, 2), ("on",), 4), True), (((1, 2), ("gave", ()), 4), True), (((1, 2, 3), ("gave", ()), 9), True),
                                (((1, 2), ("fault", "deep", "f", 1), 4), True), (((1, 2), ("gave", ()), 3), False),
                                (((1, 2), ("on",), 3), False), (((1,), ("gave", ()), 9), False), (((2, 1), ("gave", ()), 9), False),
                                (((1, 3, 2), ("on",), 9), False), (((), ("on",), 9), False)):
            self.assertIs(is_beginning(on, other), expected)
        for one in (((1, 2), ("gave", ()), 4), ((1, 2), ("fault", "deep", "f", 1), 4)):
            for other in (on, ((1, 2), ("gave", ()), 5), ((1, 2, 3), one[1], 4), ((1, 2), ("gave", (0,)), 4)):
                self.assertIs(is_beginning(one, other), False)

    def test_runs_with_more_beats(self):
        for seed, units in enumerate(bound_units(30, seed=83)):
            args = some_args(units, seed)
            outcomes = [run_units(units, args, most) for most in range(12)] + [run_units(units, args, 300)]
            for one, other in zip(outcomes, outcomes[1:]):
                self.assertIs(is_beginning(one, other), True)
                self.assertIs(is_beginning(one, outcomes[-1]), True)
                self.assertIs(is_beginning(other, one), one == other)

    def test_by_name(self):
        self.assertIs(is_beginning(other=((), ("gave", ()), 1), one=((), ("on",), 0)), True)


if __name__ == "__main__":
    unittest.main()
