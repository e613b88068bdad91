import unittest

from linkneed.binding import lets_units
from tests.checks import refusal, unusable
from tests.samples import ALONE, CASES, DOWN, MAIN, ODD_VALUES, PAIRS, TWICE
from tests.unitsamples import bound_units

GIVE = (("give", ("number", 1)),)


def unit(title, uses=(), functions=(), shapes=()):
    return (title, shapes, tuple((one, (), "word") for one in uses), tuple((one, (), "word", GIVE) for one in functions))


class BindingTest(unittest.TestCase):
    def test_examples(self):
        self.assertEqual(lets_units((TWICE, MAIN)), 2)
        self.assertEqual(lets_units((MAIN, TWICE)), 2)
        self.assertEqual(refusal(lets_units, (MAIN,)), ("Missing", {"title": "twice"}))

    def test_bound_units(self):
        self.assertEqual([lets_units((ALONE,)), lets_units((CASES,)), lets_units((ALONE, PAIRS))], [1, 1, 1])
        for units in bound_units(40, seed=61):
            self.assertEqual(lets_units(units), sum(len(one[3]) for one in units))
            self.assertEqual(lets_units(units[::-1]), lets_units(units))

    def test_structures_agree_whatever_their_titles(self):
        shape = (("pt", (("at", ("word", "word")),)),)
        user = ("a", shape, (("f", ("pt",), "pt"),), ())
        for fields, fits in ((("word", "word"), True), (("word",), False)):
            owner = ("b", (("box", (("in", fields),)),), (), (("f", (("x", "box"),), "box", ()), ("main", (), "word", ())))
            if fits:
                self.assertEqual(lets_units((user, owner)), 2)
            else:
                self.assertEqual(refusal(lets_units, (user, owner)), ("Unlike", {"title": "f"}))

    def test_no_units(self):
        unfit = ("a", (), (), (("main", (), "word", (("give", ("name", "x")),)),))
        for thing in [thing for thing in ODD_VALUES if thing != ()] + [
                [TWICE, MAIN], (TWICE, None), (MAIN, unfit), (list(TWICE), MAIN), TWICE, (unit("a", (), ("f", "f")),)]:
            self.assertEqual(refusal(lets_units, thing), unusable("units"))
        self.assertEqual(refusal(lets_units, ()), ("Missing", {"title": "main"}))

    def test_titles_of_units(self):
        units = (unit("a"), unit("b", ("ghost",), ("f",)), unit("c", (), ("f",)), unit("b"), unit("a"))
        self.assertEqual(refusal(lets_units, units), ("Twice", {"title": "b"}))
        self.assertEqual(refusal(lets_units, (TWICE, TWICE)), ("Twice", {"title": "a"}))

    def test_titles_of_functions(self):
        units = (unit("a", ("ghost",), ("f", "g", "h")), unit("b", (), ("main", "h")), unit("c", (), ("f", "g")))
        self.assertEqual(refusal(lets_units, units), ("Twice", {"title": "h"}))
        units = (unit("a", (), ("f", "g")), unit("c", (), ("z", "g", "f")))
        self.assertEqual(refusal(lets_units, units), ("Twice", {"title": "g"}))

    def test_uses_one_by_one(self):
        units = (unit("a", ("main", "odd", "ghost"), ("f",)), unit("b", ("ghost",), ("main",)),
                 ("c", (), (), (("odd", (("x", "word"),), "word", ()),)))
        self.assertEqual(refusal(lets_units, units), ("Unlike", {"title": "odd"}))
        units = (unit("a", ("main", "ghost", "odd"), ("f",)),) + units[1:]
        self.assertEqual(refusal(lets_units, units), ("Missing", {"title": "ghost"}))
        self.assertEqual(refusal(lets_units, (unit("a", ("f",)), unit("b", ("z",)), unit("c", (), ("f",)))),
                         ("Missing", {"title": "z"}))

    def test_main_is_missing_last(self):
        self.assertEqual(refusal(lets_units, (TWICE,)), ("Missing", {"title": "main"}))
        self.assertEqual(refusal(lets_units, (DOWN, unit("a", ("main",)))), ("Missing", {"title": "main"}))
        self.assertEqual(refusal(lets_units, (unit("a", ("z",)),)), ("Missing", {"title": "z"}))

    def test_a_use_of_main(self):
        self.assertEqual(lets_units((unit("a", ("main",), ("f",)), unit("b", (), ("main",)))), 2)

    def test_by_name(self):
        self.assertEqual(lets_units(units=(TWICE, MAIN)), 2)


if __name__ == "__main__":
    unittest.main()
