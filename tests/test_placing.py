import unittest

from linkneed.placing import kinds_in, places_in
from tests.checks import refusal
from tests.samples import CASES, MAIN, ODD_VALUES, PAIRS, TWICE
from tests.unitsamples import bound_units, structure

N = ("name", "n")
DIV = ("div", N, N)
REM = ("rem", DIV, ("call", "g", (DIV, ("add", N, ("call", "h", ())))))
OPT = ("opt", (("no", ()), ("yes", ("word",))))
WHOLE = ("w", (OPT,), (("h", (), "word"),), (
    ("g", (("a", "word"), ("b", "word")), "word", ()),
    ("f", (("n", "word"),), "word", (
        ("let", "a", REM), ("if", DIV, (("tell", DIV),), (("set", "a", DIV),)), ("loop", N, (("tell", REM),)),
        ("when", ("case", "opt", "yes", (DIV,)), (((), (("give", DIV), ("tell", DIV))), (("b",), (("tell", ("name", "b")),)))),
        ("give", DIV)))))


def part_at(unit, path):
    for index in path:
        unit = unit[index]
    return unit


class PlacingTest(unittest.TestCase):
    def test_example(self):
        self.assertEqual(places_in(MAIN, "main"), ((3, 0, 3, 0, 2),))
        self.assertEqual(kinds_in(TWICE, "twice"), (
            ((3, 0, 3, 0, 1), "word"), ((3, 0, 3, 0, 1, 1), "word"), ((3, 0, 3, 0, 1, 2), "word")))

    def test_places_everywhere(self):
        body = (3, 1, 3)
        rem = [(), (1,), (2,), (2, 2, 0), (2, 2, 1, 2)]
        expected = [body + (0, 2) + path for path in rem]
        expected += [body + path for path in ((1, 1), (1, 2, 0, 1), (1, 3, 0, 2))]
        expected += [body + (2, 2, 0, 1) + path for path in rem]
        expected += [body + path for path in ((3, 1, 3, 0), (3, 2, 0, 1, 0, 1), (3, 2, 0, 1, 1, 1), (4, 1))]
        self.assertEqual(places_in(WHOLE, "f"), tuple(expected))
        self.assertEqual(places_in(WHOLE, "g"), ())

    def test_kinds_of_shapes(self):
        kinds = dict(kinds_in(WHOLE, "f"))
        self.assertEqual(kinds[(3, 1, 3, 3, 1)], ((), ("word",)))
        self.assertEqual(kinds[(3, 1, 3, 3, 1, 3, 0)], "word")
        self.assertEqual(dict(kinds_in(CASES, "main"))[(3, 0, 3, 0, 1)], ((), ("word",)))

    def test_random_units(self):
        for units in bound_units(60, seed=3):
            for unit in units:
                for number, function in enumerate(unit[3]):
                    places = places_in(unit, function[0])
                    self.assertEqual(list(places), sorted(places))
                    text = repr(function[3])
                    self.assertEqual(len(places), sum(text.count(f"('{word}', ") for word in ("div", "rem", "call")))
                    self.assertTrue(all(part_at(unit, path)[0] in ("div", "rem", "call") for path in places))
                    self.assertTrue(all(path[:3] == (3, number, 3) for path in places))
                    self.check_kinds(unit, function)

    def check_kinds(self, unit, function):
        kinds = kinds_in(unit, function[0])
        paths = [path for path, _ in kinds]
        self.assertEqual(paths, sorted(set(paths)))
        for path, found in kinds:
            part = part_at(unit, path)
            if part[0] == "case":
                self.assertEqual(found, structure(unit[1], part[1]))
            elif part[0] != "name" and part[0] != "call":
                self.assertEqual(found, "word")
            if part[0] == "name" and (part[1] in dict(function[1])):
                self.assertEqual(found, structure(unit[1], dict(function[1])[part[1]]))

    def test_refusals(self):
        for thing in ODD_VALUES + ("twice", "b", "n", ["main"], ("main",)):
            self.assertEqual(refusal(places_in, MAIN, thing), ("Missing", {"title": thing}))
            self.assertEqual(refusal(kinds_in, MAIN, thing), ("Missing", {"title": thing}))
        self.assertEqual(refusal(kinds_in, PAIRS, "pair"), ("Missing", {"title": "pair"}))

    def test_by_name(self):
        self.assertEqual(places_in(title="twice", unit=TWICE), ())
        self.assertEqual(len(kinds_in(title="main", unit=MAIN)), 5)


if __name__ == "__main__":
    unittest.main()
