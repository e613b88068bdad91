import unittest

from linkneed.counting import entries_of
from linkneed.treeruns import run_units
from linkneed.uniting import as_one, split_up
from linkneed.unitsclasses import House, United
from linkneed.unittexts import unit_text
from tests.checks import refusal, same_kind, unusable
from tests.samples import ALONE, CASES, DOWN, MAIN, ODD_VALUES, PAIRS, TWICE

UNFIT = ("a", (), (), (("f", (), "word", (("give", ("name", "x")),)),))


def missing(title):
    return ("Missing", {"title": title})


def houses():
    return House(TWICE, MAIN), United("all", TWICE, MAIN)


class HouseTest(unittest.TestCase):
    def test_example(self):
        house = House(TWICE, MAIN)
        self.assertEqual([len(house), "twice" in house, "a" in house], [2, True, False])
        self.assertEqual(house.entered((5,), most=1), (("main", 1), ("twice", 0)))
        self.assertTrue(house.united("x") == House(as_one(house.units_now, "x")))
        self.assertEqual(refusal(house.without, "a"), missing("twice"))

    def test_errors(self):
        for kind in (House, lambda *units: United(None, *units)):
            self.assertEqual(refusal(kind, MAIN), missing("twice"))
            self.assertEqual(refusal(kind), missing("main"))
            self.assertEqual(refusal(kind, MAIN, TWICE, MAIN), ("Twice", {"title": "b"}))
            self.assertEqual(refusal(kind, UNFIT, MAIN), unusable("units"))
            for thing in ODD_VALUES:
                self.assertEqual(refusal(kind, MAIN, thing), unusable("units"))
        for name in ODD_VALUES + ("unit", ["a"], "A"):
            self.assertEqual(refusal(United, name, TWICE, MAIN), unusable("name"))
            self.assertEqual(refusal(House(TWICE, MAIN).united, name), unusable("name"))

    def test_properties(self):
        house, united = houses()
        self.assertTrue(same_kind([house.units_now, house.functions_now], [(TWICE, MAIN), ("main", "twice")]))
        self.assertTrue(same_kind([united.units_now, united.functions_now, united.former_now],
                                  [(as_one((TWICE, MAIN), "all"),), ("main", "twice"), (TWICE, MAIN)]))

    def test_runs(self):
        for house in houses():
            self.assertEqual(house.run((5,), 9), ((), ("gave", (15,)), 2))
            self.assertEqual(house.run(most=1, args=(5,)), ((), ("on",), 1))
            self.assertEqual(house.entered(args=(5,), most=9), entries_of((TWICE, MAIN), (5,), 9))
            self.assertEqual(refusal(house.run, (), None), unusable("args"))
            self.assertEqual(refusal(house.run, (5,), None), unusable("most"))
            self.assertEqual(refusal(house.entered, (), most=None), unusable("args"))
            self.assertEqual(refusal(house.entered, (5,), most=-1), unusable("most"))
            self.assertRaises(TypeError, house.entered, (5,), 9)
        self.assertEqual(House(CASES).run((1, 2, 9), 50), run_units((CASES,), (1, 2, 9), 50))

    def test_units(self):
        house, united = houses()
        self.assertEqual([house.unit_of("main"), house.unit_of(name="twice")], [MAIN, TWICE])
        self.assertEqual(united.unit_of("twice"), as_one((TWICE, MAIN), "all"))
        for name in ODD_VALUES + ("a", "mai", ["main"]):
            self.assertEqual(refusal(house.unit_of, name), missing(name))
            self.assertEqual(refusal(united.unit_of, name), missing(name))
        self.assertEqual(house.texts(), (unit_text(TWICE), unit_text(MAIN)))
        self.assertEqual(united.texts(), (unit_text(as_one((TWICE, MAIN), "all")),))

    def test_what_is_in_it(self):
        house, united = houses()
        self.assertEqual([len(house), len(united), list(house), list(house)], [2, 1, [TWICE, MAIN], [TWICE, MAIN]])
        self.assertEqual([thing in house for thing in ("main", "twice", "b", "", None, 0, ["main"], TWICE)], [True] * 2 + [False] * 6)
        self.assertTrue("twice" in united)

    def test_put(self):
        house, united = houses()
        other = TWICE[:3] + (TWICE[3] + (("more", (), "word", ()),),)
        self.assertEqual(house.put(other).units_now, (other, MAIN))
        self.assertEqual(house.put(one=PAIRS).units_now, (TWICE, MAIN, PAIRS))
        self.assertEqual(united.put(DOWN).units_now, united.units_now + (DOWN,))
        self.assertIs(type(united.put(DOWN)), House)
        self.assertEqual(refusal(house.put, ALONE[:3] + ((),)), missing("main"))
        self.assertEqual(refusal(house.put, ("z",) + ALONE[1:]), ("Twice", {"title": "main"}))
        self.assertEqual(refusal(house.put, ("a", (), (), ())), missing("twice"))
        self.assertEqual(refusal(house.put, ("a", (), (), (("twice", (), "word", ()),))), ("Unlike", {"title": "twice"}))
        for thing in ODD_VALUES + (UNFIT, list(PAIRS)):
            self.assertEqual(refusal(house.put, thing), unusable("one"))
        self.assertEqual(house.units_now, (TWICE, MAIN))

    def test_without(self):
        house = House(TWICE, PAIRS, MAIN, DOWN)
        self.assertEqual(house.without("c").without(name="u").units_now, (TWICE, MAIN))
        self.assertEqual(refusal(house.without, "b"), missing("main"))
        for name in ODD_VALUES + ("main", "z", ["a"]):
            self.assertEqual(refusal(house.without, name), missing(name))
        united = United("all", TWICE, MAIN)
        self.assertEqual(refusal(united.without, "all"), missing("main"))
        self.assertIs(type(united.put(DOWN).without("u")), House)

    def test_united_and_apart(self):
        for house in houses():
            self.assertEqual(house.united(name="x").units_now, (as_one(house.units_now, "x"),))
            self.assertEqual(house.united("x").former_now, house.units_now)
            self.assertIs(type(house.united("x")), United)
            self.assertEqual(house.apart().units_now, split_up(house.units_now))
            self.assertIs(type(house.apart()), House)

    def test_of_texts(self):
        texts = (unit_text(TWICE), unit_text(MAIN))
        self.assertEqual(House.of_texts(*texts).units_now, (TWICE, MAIN))
        self.assertIs(type(House.of_texts(*texts)), House)
        self.assertEqual(refusal(House.of_texts), missing("main"))
        self.assertEqual(refusal(House.of_texts, texts[1]), missing("twice"))
        self.assertEqual(refusal(House.of_texts, texts[1], texts[1], "unit a\nend", None), ("InvalidText", {"line": 1}))
        self.assertEqual(refusal(House.of_texts, texts[1], None, "unit a\nend"), unusable("text"))

    def test_equality(self):
        house, united = houses()
        self.assertTrue(house == House(TWICE, MAIN) and house != House(MAIN, TWICE))
        self.assertTrue(united == House(as_one((TWICE, MAIN), "all")) and House(as_one((TWICE, MAIN), "all")) == united)
        self.assertTrue(united == United("all", *split_up((TWICE, MAIN))))
        self.assertFalse(house == united)
        for thing in ((TWICE, MAIN), None, 0, "all"):
            self.assertFalse(house == thing)


if __name__ == "__main__":
    unittest.main()
