import unittest

from linkneed.ringing import is_ring_call, reached_from, rings_of
from tests import linkoracles
from tests.checks import refusal, unusable
from tests.samples import FIVE, ODD_VALUES

NO_SHEETS = (None, [], (None,), FIVE + FIVE[:1], list(FIVE), (("f", 1),), (("f", True, ()),), "main", 0)


class RingingTest(unittest.TestCase):
    def test_examples(self):
        self.assertEqual(reached_from(FIVE, "main"), ("even", "leaf", "odd"))
        self.assertEqual(reached_from(FIVE, "spare"), ("ghost",))
        self.assertEqual(rings_of(FIVE), (("even", "odd"),))
        self.assertIs(is_ring_call(FIVE, "odd", "leaf"), False)
        self.assertIs(is_ring_call(FIVE, "leaf", "leaf"), True)

    def test_there_need_be_no_call(self):
        self.assertIs(is_ring_call(FIVE, "even", "odd"), True)
        self.assertIs(is_ring_call(FIVE, "leaf", "main"), True)
        self.assertIs(is_ring_call(FIVE, "main", "spare"), False)

    def test_rings_of_one(self):
        sheets = (("g", 1, (("f", 1), ("h", 0))), ("f", 1, (("f", 2),)), ("h", 0, ()))
        self.assertEqual(rings_of(sheets), (("f",),))
        self.assertEqual(reached_from(sheets, "f"), ("f",))
        self.assertEqual(rings_of(()), ())

    def test_rings_ascend(self):
        sheets = (("z", 0, (("b", 0),)), ("b", 0, (("z", 0),)), ("c", 0, (("c", 0), ("a", 0))), ("a", 0, (("a", 0), ("b", 1))))
        self.assertEqual(rings_of(sheets), (("a",), ("b", "z"), ("c",)))

    def test_random_sheets(self):
        for seed in range(150):
            sheets = linkoracles.random_sheets(seed, ghosts=seed % 2 == 0)
            self.assertEqual(rings_of(sheets), linkoracles.rings(sheets))
            titles = [sheet[0] for sheet in sheets]
            for title in titles:
                self.assertEqual(reached_from(sheets, title), tuple(sorted(linkoracles.reached(sheets, title))))
                for other in titles:
                    expected = other == title or title in linkoracles.reached(sheets, other)
                    self.assertIs(is_ring_call(sheets, title, other), expected)

    def test_titles_without_a_sheet(self):
        for thing in ODD_VALUES + ("ghost", "mai", ("main",)):
            self.assertEqual(refusal(reached_from, FIVE, thing), ("Missing", {"title": thing}))
            self.assertEqual(refusal(is_ring_call, FIVE, thing, "nobody"), ("Missing", {"title": thing}))
            self.assertEqual(refusal(is_ring_call, FIVE, "main", thing), ("Missing", {"title": thing}))
        thing = ["main"]
        try:
            reached_from(FIVE, thing)
        except Exception as error:
            self.assertIs(error.title, thing)

    def test_no_sheets_come_first(self):
        for thing in NO_SHEETS:
            self.assertEqual(refusal(reached_from, thing, None), unusable("sheets"))
            self.assertEqual(refusal(rings_of, thing), unusable("sheets"))
            self.assertEqual(refusal(is_ring_call, thing, None, None), unusable("sheets"))

    def test_by_name(self):
        self.assertEqual(reached_from(name="spare", sheets=FIVE), ("ghost",))
        self.assertEqual(rings_of(sheets=FIVE), (("even", "odd"),))
        self.assertIs(is_ring_call(called="odd", caller="even", sheets=FIVE), True)


if __name__ == "__main__":
    unittest.main()
