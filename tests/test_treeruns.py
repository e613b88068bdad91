import unittest

from linkneed.counting import entries_of, open_most
from linkneed.treeruns import run_units
from tests.checks import refusal, same_kind, unusable
from tests.samples import ALONE, CASES, DOWN, MAIN, ODD_VALUES, TWICE
from tests.unitsamples import TreeRun, bound_units, some_args

N = ("name", "n")


def number(word):
    return ("number", word)


def unit(*functions):
    return ("u", (), (), functions)


def main(*body):
    return unit(("main", (("n", "word"),), "word", body))


def counted(units, args, most):
    """The entries and the most open at once, told by a run that notes them."""
    entered = {function[0]: 0 for one in units for function in one[3]}
    most_open = [0]

    class Noting(TreeRun):
        def enter(self, title, values):
            if self.beats < self.most:
                entered[title] += 1
                most_open[0] = max(most_open[0], self.open + 1)
            return super().enter(title, values)

    Noting(units, most).outcome(args)
    return tuple(sorted(entered.items())), most_open[0]


class RunsTest(unittest.TestCase):
    def test_examples(self):
        self.assertEqual(run_units((TWICE, MAIN), (5,), 9), ((), ("gave", (15,)), 2))
        self.assertEqual(run_units((TWICE, MAIN), (5,), 1), ((), ("on",), 1))
        self.assertEqual(run_units((CASES,), (1, 2, 9), 50), ((2, 1), ("fault", "nought", "main", 0), 4))
        self.assertEqual(run_units((CASES,), (1, 2, 9), 3), ((2, 1), ("on",), 3))
        self.assertEqual(run_units((CASES,), (0, 0, 9), 1), ((), ("gave", (7,)), 1))

    def test_no_beat(self):
        self.assertTrue(same_kind(run_units((ALONE,), (), 0), ((), ("on",), 0)))
        self.assertEqual(run_units((ALONE,), (), 1), ((), ("gave", (4,)), 1))

    def test_an_end_without_a_give(self):
        self.assertEqual(run_units((main(("tell", N)),), (4,), 9), ((4,), ("gave", (0,)), 1))
        shapes = (("opt", (("no", ()), ("yes", ("word", "word")))), ("void", (("it", ()),)))
        for kind, words in (("opt", (0, 0, 0)), ("void", ()), ("word", (0,))):
            self.assertEqual(run_units((("u", shapes, (), (("main", (), kind, ()),)),), (), 9), ((), ("gave", words), 1))

    def test_a_give_ends_the_function(self):
        body = (("loop", number(1), (("if", N, (("give", N),), (("tell", number(3)),)), ("give", number(8)))), ("tell", N))
        self.assertEqual(run_units((main(*body),), (4,), 9), ((), ("gave", (4,)), 2))
        self.assertEqual(run_units((main(*body),), (0,), 9), ((3,), ("gave", (8,)), 2))

    def test_loops(self):
        body = (("loop", N, (("tell", N), ("set", "n", ("sub", N, number(1))))), ("tell", number(9)))
        self.assertEqual(run_units((main(*body),), (2,), 9), ((2, 1, 9), ("gave", (0,)), 4))
        self.assertEqual(run_units((main(*body),), (2,), 4), ((2, 1, 9), ("gave", (0,)), 4))
        self.assertEqual(run_units((main(*body),), (2,), 3), ((2, 1), ("on",), 3))
        endless = (("loop", number(1), ()),)
        self.assertEqual(run_units((main(*endless),), (2,), 2000), ((), ("on",), 2000))

    def test_a_round_takes_its_beat_ahead_of_its_word(self):
        body = (("loop", ("div", N, number(0)), ()),)
        self.assertEqual(run_units((main(*body),), (2,), 1), ((), ("on",), 1))
        self.assertEqual(run_units((main(*body),), (2,), 2), ((), ("fault", "nought", "main", 0), 2))

    def test_if(self):
        body = (("if", N, (("tell", number(1)),), (("tell", number(2)),)), ("if", N, (), (("tell", number(3)),)), ("tell", N))
        self.assertEqual(run_units((main(*body),), (7,), 9)[0], (1, 7))
        self.assertEqual(run_units((main(*body),), (0,), 9)[0], (2, 3, 0))

    def test_parts_are_worked_out_in_order(self):
        def noting(title, word):
            return (title, (("x", "word"),), "word", (("tell", number(word)), ("give", ("name", "x"))))
        body = (("give", ("sub", ("call", "f", (("call", "g", (number(9),)),)), ("call", "g", (N,)))),)
        units = (unit(("main", (("n", "word"),), "word", body), noting("f", 1), noting("g", 2)),)
        self.assertEqual(run_units(units, (4,), 9), ((2, 1, 2), ("gave", (5,)), 4))
        pair = ("p", (("pr", (("it", ("word", "word")),)),), (), (
            ("main", (), "pr", (("give", ("case", "pr", "it", (("call", "f", (number(7),)), ("call", "g", (number(8),))))),)),
            noting("f", 1), noting("g", 2)))
        self.assertEqual(run_units((pair,), (), 9), ((1, 2), ("gave", (7, 8)), 3))

    def test_places(self):
        # The outer expression stands ahead of its parts: of (rem (div n 0) (div n n)) the places are 0, 1, 2.
        body = (("tell", ("rem", ("div", N, number(2)), ("div", number(5), N))), ("give", ("div", number(1), ("sub", N, N))))
        self.assertEqual(run_units((main(*body),), (0,), 9), ((), ("fault", "nought", "main", 2), 1))
        self.assertEqual(run_units((main(*body),), (9,), 9), ((), ("fault", "nought", "main", 0), 1))
        self.assertEqual(run_units((main(*body),), (3,), 9), ((0,), ("fault", "nought", "main", 3), 1))

    def test_places_behind_what_is_left_out(self):
        body = (("if", N, (("give", ("div", N, N)), ("tell", ("div", N, N))), ()), ("give", ("rem", N, N)))
        self.assertEqual(run_units((main(*body),), (0,), 9), ((), ("fault", "nought", "main", 2), 1))

    def test_deep(self):
        ring = unit(("main", (("n", "word"),), "word", (
            ("tell", N), ("give", ("call", "main", (("add", N, ("call", "one", ())),)))), ), ("one", (), "word", (
                ("give", number(1)),)))
        told = tuple(range(15))
        self.assertEqual(run_units((ring,), (0,), 99), (told + (15,), ("fault", "deep", "main", 1), 31))
        self.assertEqual(run_units((ring,), (0,), 31), (told + (15,), ("fault", "deep", "main", 1), 31))
        self.assertEqual(run_units((ring,), (0,), 30), (told, ("on",), 30))
        self.assertEqual(open_most((ring,), (0,), 99), 16)
        self.assertEqual(entries_of((ring,), (0,), 99), (("main", 16), ("one", 15)))

    def test_arguments_are_worked_out_ahead_of_deep(self):
        down = main(("tell", N), ("give", ("call", "main", (("sub", N, ("div", N, N)),))))
        self.assertEqual(run_units((down,), (15,), 99)[1], ("fault", "nought", "main", 1))
        self.assertEqual(run_units((down,), (16,), 99)[1], ("fault", "deep", "main", 0))

    def test_variables_are_those_of_their_call(self):
        ring = main(("let", "m", ("mul", N, number(2))), ("if", N, (("tell", ("call", "main", (("sub", N, number(1)),))),), ()),
                    ("give", ("add", ("name", "m"), N)))
        self.assertEqual(run_units((ring,), (3,), 99), ((0, 3, 6), ("gave", (9,)), 4))

    def test_titles_of_arms_and_lets_are_bound_anew(self):
        shapes = (("opt", (("no", ()), ("yes", ("word", "word")))),)
        body = (("loop", N, (("let", "m", N), ("set", "n", ("sub", N, number(1))), ("tell", ("name", "m")))),
                ("when", ("name", "o"), (((), (("let", "x", number(7)), ("tell", ("name", "x")))),
                                         (("x", "y"), (("set", "x", ("add", ("name", "x"), number(1))),
                                                       ("tell", ("name", "x")), ("tell", ("name", "y")))))), ("give", ("name", "o")))
        units = (("u", shapes, (), (("main", (("o", "opt"), ("n", "word")), "opt", body),)),)
        self.assertEqual(run_units(units, (1, 5, 6, 2), 99), ((2, 1, 6, 6), ("gave", (1, 5, 6)), 4))
        self.assertEqual(run_units(units, (0, 0, 0, 0), 99), ((7,), ("gave", (0, 0, 0)), 2))

    def test_deep_bodies_in_many_open_functions(self):
        inner = ("call", "main", (N,))
        for _ in range(8):
            inner = ("add", number(0), inner)
        body = (("give", inner),)
        for _ in range(5):
            body = (("if", number(1), body, ()),)
        self.assertEqual(run_units((main(*body),), (1,), 99), ((), ("fault", "deep", "main", 0), 16))

    def test_against_the_slow_run(self):
        for seed, units in enumerate(bound_units(120, seed=62)):
            for at in range(2):
                args = some_args(units, 5 * seed + at)
                for most in (0, 1, 2, 5, 17, 120):
                    expected = TreeRun(units, most).outcome(args)
                    self.assertTrue(same_kind(run_units(units, args, most), expected))
                    entries, most_open = counted(units, args, most)
                    self.assertTrue(same_kind(entries_of(units, args, most), entries))
                    self.assertTrue(same_kind(open_most(units, args, most), most_open))

    def test_args(self):
        for function in (run_units, entries_of, open_most):
            for args in ODD_VALUES + ((1, 2), (65536,), ((5,),), [5]):
                if args != (0,):
                    self.assertEqual(refusal(function, (TWICE, MAIN), args, None), unusable("args"))
            for args in ((2, 0, 9), (0, 1, 9), (1, 2), (1, 2, 9, 0), (1, True, 9), (), [1, 2, 9]):
                self.assertEqual(refusal(function, (CASES,), args, -1), unusable("args"))
            for most in [thing for thing in ODD_VALUES if not isinstance(thing, int) or thing < 0 or isinstance(thing, bool)]:
                self.assertEqual(refusal(function, (TWICE, MAIN), (5,), most), unusable("most"))
            self.assertEqual(refusal(function, (ALONE,), (0,), 3), unusable("args"))

    def test_by_name(self):
        self.assertEqual(run_units(most=9, args=(5,), units=(TWICE, MAIN)), ((), ("gave", (15,)), 2))
        self.assertEqual(entries_of(most=9, args=(5,), units=(TWICE, MAIN)), (("main", 1), ("twice", 1)))
        self.assertEqual(open_most(most=9, args=(5,), units=(TWICE, MAIN)), 2)


class CountingTest(unittest.TestCase):
    def test_examples(self):
        self.assertEqual(entries_of((TWICE, MAIN), (5,), 1), (("main", 1), ("twice", 0)))
        self.assertEqual(open_most((TWICE, MAIN), (5,), 9), 2)

    def test_no_beats(self):
        self.assertTrue(same_kind(entries_of((TWICE, MAIN), (5,), 0), (("main", 0), ("twice", 0))))
        self.assertTrue(same_kind([open_most((TWICE, MAIN), (5,), at) for at in range(4)], [0, 1, 2, 2]))

    def test_functions_that_are_never_called_count(self):
        self.assertEqual(entries_of((DOWN, ALONE), (), 9), (("down", 0), ("main", 1)))


if __name__ == "__main__":
    unittest.main()
