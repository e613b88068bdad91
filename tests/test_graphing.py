import unittest

from linkneed.graphing import graph_of
from linkneed.graphkinds import is_loose
from tests.checks import refusal
from tests.samples import BEAT, CASES, DOWN, MAIN, ODD_VALUES, ONE, PAIRS, TWICE, TWO
from tests.unitsamples import GraphRun, TreeRun, bound_units, some_args

N = ("name", "n")
TELL = ("tell", N)
GIVE = ("give", N)
DIV = ("div", N, N)
SHAPES = (
    ("pair", (("both", ("word", "word")),)), ("tri", (("a", ()), ("b", ("word",)), ("c", ("word", "word")))),
    ("none", (("only", ()),)), ("flag", (("off", ()), ("on", ()))), ("deep", (("d", ("pair", "none", "flag")),)))
USES = (("g", ("word", "pair"), "tri"), ("e", (), "none"))


def number(mark, word):
    return ((mark,), "number", (), word)


def copy(mark, read):
    return ((mark,), "copy", (read,), 0)


def told(mark):
    return ((), "tell", (mark,), 0)


def drawn(body, params=(("n", "word"),), gives="word"):
    graph = graph_of(("t", SHAPES, USES, (("f", params, gives, tuple(body)),)), "f")
    assert graph[0] == "f" and is_loose(graph)
    return graph[2]


class GraphingTest(unittest.TestCase):
    def test_example(self):
        self.assertEqual(graph_of(MAIN, "main"), TWO)
        self.assertEqual(graph_of(TWICE, "twice"), ONE)

    def test_empty_bodies_give_noughts(self):
        self.assertEqual(drawn(()), (((0,), (BEAT, number(1, 0)), ("give", (1,))),))
        self.assertEqual(drawn((), (), "tri"), (((), (BEAT, number(0, 0), number(1, 0), number(2, 0)), ("give", (0, 1, 2))),))
        self.assertEqual(drawn((), (), "none"), (((), (BEAT,), ("give", ())),))

    def test_params_in_order(self):
        self.assertEqual(drawn((("give", ("name", "q")),), (("n", "word"), ("p", "tri"), ("o", "none"), ("q", "pair")), "pair"),
                         (((0, 1, 2, 3, 4, 5), (BEAT,), ("give", (4, 5))),))

    def test_names_and_lets(self):
        self.assertEqual(drawn((("let", "a", N), ("let", "b", ("name", "a")), ("give", ("name", "b")))),
                         (((0,), (BEAT, copy(1, 0), copy(2, 1)), ("give", (2,))),))

    def test_set_copies_into_the_marks_of_the_title(self):
        self.assertEqual(drawn((("set", "n", N), ("set", "p", ("case", "pair", "both", (N, ("number", 3)))), GIVE),
                               (("n", "word"), ("p", "pair"))),
                         (((0, 1, 2), (BEAT, copy(0, 0), number(3, 3), copy(1, 0), copy(2, 3)), ("give", (0,))),))

    def test_operations_in_order(self):
        inner = ("sub", ("number", 4), N)
        self.assertEqual(drawn((("tell", ("mul", inner, ("add", N, inner))),)), ((
            (0,), (BEAT, number(1, 4), ((2,), "sub", (1, 0), 0), number(3, 4), ((4,), "sub", (3, 0), 0),
                   ((5,), "add", (0, 4), 0), ((6,), "mul", (2, 5), 0), told(6), number(7, 0)), ("give", (7,))),))

    def test_places_count_an_expression_ahead_of_its_parts(self):
        body = (("give", ("rem", ("div", N, N), ("div", DIV, N))),)
        self.assertEqual(drawn(body), (((0,), (
            BEAT, ((1,), "div", (0, 0), 1), ((2,), "div", (0, 0), 3), ((3,), "div", (2, 0), 2), ((4,), "rem", (1, 3), 0)),
            ("give", (4,))),))

    def test_calls(self):
        call = ("call", "g", (DIV, ("case", "pair", "both", (("call", "f", (N,)), ("number", 8)))))
        body = (("let", "a", call), ("let", "b", ("call", "e", ())), ("give", ("name", "n")))
        self.assertEqual(drawn(body), (((0,), (
            BEAT, ((1,), "div", (0, 0), 1), ((2,), "call", (0,), ("f", 2)), number(3, 8),
            ((4, 5, 6), "call", (1, 2, 3), ("g", 0)), copy(7, 4), copy(8, 5), copy(9, 6), ((), "call", (), ("e", 3))),
            ("give", (0,))),))

    def test_cases(self):
        self.assertEqual(drawn((("give", ("case", "tri", "b", (N,))),), gives="tri"),
                         (((0,), (BEAT, number(1, 1), number(2, 0)), ("give", (1, 0, 2))),))
        self.assertEqual(drawn((("give", ("case", "tri", "a", ())),), gives="tri"),
                         (((0,), (BEAT, number(1, 0), number(2, 0), number(3, 0)), ("give", (1, 2, 3))),))
        self.assertEqual(drawn((("give", ("case", "tri", "c", (("number", 7), N))),), gives="tri"),
                         (((0,), (BEAT, number(1, 2), number(2, 7)), ("give", (1, 2, 0))),))
        self.assertEqual(drawn((("give", ("case", "flag", "on", ())),), gives="flag"),
                         (((0,), (BEAT, number(1, 1)), ("give", (1,))),))
        self.assertEqual(drawn((("give", ("case", "none", "only", ())),), gives="none"), (((0,), (BEAT,), ("give", ())),))
        deep = ("case", "deep", "d", (("case", "pair", "both", (N, N)), ("case", "none", "only", ()), ("case", "flag", "on", ())))
        self.assertEqual(drawn((("let", "a", deep),), gives="none"),
                         (((0,), (BEAT, number(1, 1), copy(2, 0), copy(3, 0), copy(4, 1)), ("give", ())),))

    def test_if(self):
        self.assertEqual(drawn((("if", N, (TELL,), ()),)), (
            ((0,), (BEAT,), ("by", 0, 1, 2)), ((), (told(0),), ("to", 3, ())), ((), (), ("to", 3, ())),
            ((), (number(1, 0),), ("give", (1,)))))

    def test_if_with_one_end(self):
        self.assertEqual(drawn((("if", N, (GIVE,), (TELL,)), ("give", ("number", 5)))), (
            ((0,), (BEAT,), ("by", 0, 1, 2)), ((), (), ("give", (0,))), ((), (told(0),), ("to", 3, ())),
            ((), (number(1, 5),), ("give", (1,)))))
        self.assertEqual(drawn((("if", N, (TELL,), (GIVE,)), GIVE)), (
            ((0,), (BEAT,), ("by", 0, 1, 2)), ((), (told(0),), ("to", 3, ())), ((), (), ("give", (0,))),
            ((), (), ("give", (0,)))))

    def test_what_stands_behind_is_left_out(self):
        both = ("if", N, (GIVE, TELL), (("give", ("number", 7)),))
        self.assertEqual(drawn((both, TELL, ("loop", N, ()))), (
            ((0,), (BEAT,), ("by", 0, 1, 2)), ((), (), ("give", (0,))), ((), (number(1, 7),), ("give", (1,)))))
        self.assertEqual(drawn((("if", N, (both, TELL), ()),)), (
            ((0,), (BEAT,), ("by", 0, 1, 4)), ((), (), ("by", 0, 2, 3)), ((), (), ("give", (0,))),
            ((), (number(1, 7),), ("give", (1,))), ((), (), ("to", 5, ())), ((), (number(2, 0),), ("give", (2,)))))

    def test_loops(self):
        body = (("if", N, (GIVE,), (("set", "n", ("number", 0)),)),)
        self.assertEqual(drawn((("loop", N, body), TELL)), (
            ((0,), (BEAT,), ("to", 1, ())), ((), (BEAT,), ("by", 0, 2, 6)), ((), (), ("by", 0, 3, 4)),
            ((), (), ("give", (0,))), ((), (number(1, 0), copy(0, 1)), ("to", 5, ())), ((), (), ("to", 1, ())),
            ((), (told(0), number(2, 0)), ("give", (2,)))))

    def test_loop_whose_body_gives(self):
        self.assertEqual(drawn((("loop", ("less", N, N), (("give", DIV), ("tell", DIV))), ("give", ("rem", N, N)))), (
            ((0,), (BEAT,), ("to", 1, ())), ((), (BEAT, ((1,), "less", (0, 0), 0)), ("by", 1, 2, 3)),
            ((), (((2,), "div", (0, 0), 0),), ("give", (2,))), ((), (((3,), "rem", (0, 0), 2),), ("give", (3,)))))

    def test_loop_of_nothing(self):
        self.assertEqual(drawn((("loop", N, ()),), gives="none"), (
            ((0,), (BEAT,), ("to", 1, ())), ((), (BEAT,), ("by", 0, 2, 3)), ((), (), ("to", 1, ())), ((), (), ("give", ()))))

    def test_when_with_one_case(self):
        arm = (("a", "b"), (("tell", ("name", "b")),))
        self.assertEqual(drawn((("when", ("name", "p"), (arm,)), GIVE), (("p", "pair"), ("n", "word"))),
                         (((0, 1, 2), (BEAT, copy(3, 0), copy(4, 1), told(4)), ("give", (2,))),))
        giving = (("a", "b"), (("give", ("name", "a")),))
        self.assertEqual(drawn((("when", ("name", "p"), (giving,)), ("tell", DIV)), (("p", "pair"), ("n", "word"))),
                         (((0, 1, 2), (BEAT, copy(3, 0), copy(4, 1)), ("give", (3,))),))

    def test_when_with_wide_and_narrow_fields(self):
        arm = (("a", "b", "c"), (("give", ("name", "c")),))
        self.assertEqual(drawn((("when", ("name", "d"), (arm,)),), (("d", "deep"),), "flag"),
                         (((0, 1, 2), (BEAT, copy(3, 0), copy(4, 1), copy(5, 2)), ("give", (5,))),))

    def test_when_with_several_cases(self):
        arms = (((), (("tell", ("number", 9)),)), (("x",), (("give", ("name", "x")),)), (("y", "z"), (("tell", ("name", "z")),)))
        self.assertEqual(drawn((("when", ("name", "o"), arms),), (("o", "tri"),)), (
            ((0, 1, 2), (BEAT, number(3, 0), ((4,), "same", (0, 3), 0)), ("by", 4, 1, 2)),
            ((), (number(5, 9), told(5)), ("to", 5, ())),
            ((), (number(6, 1), ((7,), "same", (0, 6), 0)), ("by", 7, 3, 4)),
            ((), (copy(8, 1),), ("give", (8,))),
            ((), (copy(9, 1), copy(10, 2), told(10)), ("to", 5, ())),
            ((), (number(11, 0),), ("give", (11,)))))

    def test_when_that_comes_to_no_end(self):
        self.assertEqual(graph_of(CASES, "main")[2], (
            ((0, 1, 2), (BEAT, number(3, 0), ((4,), "same", (0, 3), 0)), ("by", 4, 1, 2)),
            ((), (number(5, 7),), ("give", (5,))), ((), (copy(6, 1),), ("to", 3, ())), ((), (BEAT,), ("by", 6, 4, 5)),
            ((), (told(6), number(7, 1), ((8,), "sub", (6, 7), 0), copy(6, 8)), ("to", 3, ())),
            ((), (((9,), "div", (2, 6), 0),), ("give", (9,)))))

    def test_when_of_a_call(self):
        arms = (((), ()), (("x",), ()), (("y", "z"), ()))
        value = ("call", "g", (N, ("name", "p")))
        self.assertEqual(drawn((("when", value, arms), GIVE), (("n", "word"), ("p", "pair")))[0], (
            (0, 1, 2), (BEAT, ((3, 4, 5), "call", (0, 1, 2), ("g", 0)), number(6, 0), ((7,), "same", (3, 6), 0)),
            ("by", 7, 1, 2)))

    def test_runs_of_random_units(self):
        for number_of, units in enumerate(bound_units(150, seed=8)):
            graphs = [graph_of(unit, function[0]) for unit in units for function in unit[3]]
            self.assertTrue(all(is_loose(graph) for graph in graphs))
            for seed in range(3):
                args = some_args(units, seed)
                for most in (0, 3, 40):
                    self.assertEqual(GraphRun(graphs, most).outcome(args), TreeRun(units, most).outcome(args), number_of)

    def test_refusals(self):
        for thing in ODD_VALUES + ("twice", "b", ["main"]):
            self.assertEqual(refusal(graph_of, MAIN, thing), ("Missing", {"title": thing}))
        self.assertEqual(refusal(graph_of, PAIRS, "pair"), ("Missing", {"title": "pair"}))

    def test_by_name(self):
        self.assertEqual(graph_of(title="down", unit=DOWN)[0], "down")


if __name__ == "__main__":
    unittest.main()
