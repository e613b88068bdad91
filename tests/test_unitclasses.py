import unittest

from linkneed.judging import judge_unit
from linkneed.unitclasses import Judged, Written
from linkneed.unittexts import unit_text
from tests.checks import refusal, same_kind, unusable
from tests.samples import CASES, MAIN, ODD_VALUES, PAIRS, TWICE
from tests.test_unittexts import WHOLE

GIVE = (("give", ("number", 1)),)
F, G, H = ("f", (), "word", GIVE), ("g", (), "word", ()), ("h", (("x", "word"),), "word", (("give", ("name", "x")),))
UNIT = ("u", (), (), (F, G))
# By its form alone a unit may have titles twice, and name what there is not.
LOOSE = ("u", (("s", (("c", ()),)), ("r", (("c", ("q",)),)), ("s", (("d", ()),))), (("w", (), "zz"), ("v", (), "word"), ("v", (), "word")),
         (G, F, ("f", (), "word", (("give", ("name", "z")),))))
BAD = ("f", (), "word", (("give", ("name", "z")),))


def missing(title):
    return ("Missing", {"title": title})


class WrittenTest(unittest.TestCase):
    def test_example(self):
        one = Written(MAIN)
        self.assertEqual([one.functions(), "twice" in one, one.part_at((3, 0, 3, 1, 0)), Judged(MAIN) == one],
                         [("main",), False, "give", True])

    def test_whatever_titles_stand_for(self):
        one = Written(LOOSE)
        self.assertEqual(one.unit_now, LOOSE)
        self.assertTrue(same_kind([one.functions(), one.shapes(), one.uses()], [("f", "g"), ("r", "s"), ("v", "w")]))
        self.assertEqual(one.text(), unit_text(LOOSE))
        self.assertEqual(one.body_of("f"), GIVE)
        self.assertEqual(refusal(one.judged), refusal(judge_unit, LOOSE))
        self.assertEqual(list(one), [G, F, LOOSE[3][2]])
        self.assertEqual(one.without("f").unit_now, LOOSE[:3] + ((G,),))
        self.assertEqual(one.put(H).unit_now[3], LOOSE[3] + (H,))
        self.assertEqual(one.put(BAD).unit_now[3], (G, BAD, LOOSE[3][2]))

    def test_no_units(self):
        for kind in (Written, Judged):
            for thing in ODD_VALUES + (list(MAIN), MAIN[:3], F, MAIN[:3] + (list(MAIN[3]),), ("u", (), (), (None,))):
                self.assertEqual(refusal(kind, thing), unusable("unit"))

    def test_titles(self):
        one = Written(WHOLE)
        self.assertEqual([one.functions(), one.shapes(), one.uses()], [("f", "g"), ("r", "s"), ("u", "v")])
        self.assertEqual([Written(("a", (), (), ())).functions(), Written(PAIRS).uses()], [(), ()])
        self.assertEqual([title in one for title in ("f", "g", "u", "s", "w", "fg", 0, None, ("f",), ["f"])],
                         [True, True] + [False] * 8)

    def test_judged(self):
        self.assertEqual([Written(MAIN).judged(), Judged(MAIN).judged(), Judged(CASES).judged()], [5, 5, judge_unit(CASES)])

    def test_bodies(self):
        self.assertEqual(Written(MAIN).body_of("main"), MAIN[3][0][3])
        for name in ODD_VALUES + ("twice", "b", ["main"]):
            self.assertEqual(refusal(Written(MAIN).body_of, name), missing(name))

    def test_parts(self):
        one = Written(MAIN)
        self.assertEqual([one.part_at(()), one.part_at((0,)), one.part_at((2, 0, 1, 0)), one.part_at((3, 0, 3, 0, 2))],
                         [MAIN, "b", "word", MAIN[3][0][3][0][2]])
        self.assertEqual(Written(TWICE).part_at((3, 0, 3, 0, 1, 1, 1)), "x")
        for path in [thing for thing in ODD_VALUES if thing not in ((), (0,))] + [
                [0], (4,), (0, 0), (3, 1), (3, 0, 3, 0, 2, 1, 0), (-1,), (3, -1), (True,), (3, False), ("3",), (2, 0, (1,)), (1, 0)]:
            self.assertEqual(refusal(one.part_at, path), unusable("path"))

    def test_put(self):
        for kind in (Written, Judged):
            one = kind(UNIT)
            self.assertEqual(one.put(H).unit_now[3], (F, G, H))
            self.assertEqual(one.put(H, ahead=True).unit_now[3], (H, F, G))
            self.assertEqual(one.put(H, ahead=False).unit_now[3], (F, G, H))
            other = ("g", (), "word", GIVE)
            for ahead in (False, True):
                self.assertEqual(one.put(function=other, ahead=ahead).unit_now, UNIT[:3] + ((F, other),))
            self.assertIs(type(one.put(H)), kind)
            self.assertEqual(one.unit_now, UNIT)
            for thing in ODD_VALUES + (F[:3], list(F), ("F",) + F[1:], F[:3] + (None,), F[:1] + ((None,),) + F[2:], F[:2] + ("if", ())):
                self.assertEqual(refusal(one.put, thing), unusable("function"))
            self.assertRaises(TypeError, one.put, H, True)

    def test_without(self):
        for kind in (Written, Judged):
            one = kind(UNIT)
            self.assertEqual(one.without("f").unit_now, UNIT[:3] + ((G,),))
            self.assertEqual(one.without(name="g").without("f").unit_now, UNIT[:3] + ((),))
            self.assertIs(type(one.without("f")), kind)
            for name in ODD_VALUES + ("u", "h", ["f"]):
                self.assertEqual(refusal(one.without, name), missing(name))

    def test_judged_stay_fit(self):
        self.assertEqual(refusal(Judged, UNIT[:3] + ((BAD,),)), ("Unfit", {"word": "unknown", "path": (3, 0, 3, 0, 1)}))
        self.assertEqual(refusal(Judged(UNIT).put, BAD), ("Unfit", {"word": "unknown", "path": (3, 0, 3, 0, 1)}))
        self.assertEqual(Written(UNIT).put(BAD).unit_now[3], (BAD, G))
        caller = ("h", (), "word", (("give", ("call", "f", ())),))
        one = Judged(UNIT).put(caller)
        self.assertEqual(refusal(one.without, "f"), ("Unfit", {"word": "unknown", "path": (3, 1, 3, 0, 1)}))
        self.assertEqual(one.without("h"), Judged(UNIT))

    def test_equality(self):
        self.assertTrue(Written(MAIN) == Judged(MAIN) and Judged(MAIN) == Written(MAIN))
        self.assertTrue(Written(MAIN) == Written(MAIN[:1] + MAIN[1:]))
        self.assertFalse(Written(MAIN) == Written(TWICE))
        self.assertTrue(Written(MAIN) != Judged(TWICE))
        for thing in (MAIN, None, "b", 0):
            self.assertFalse(Written(MAIN) == thing)

    def test_read(self):
        self.assertEqual(Written.read(unit_text(WHOLE)), Written(WHOLE))
        self.assertIs(type(Written.read(text=unit_text(LOOSE))), Written)
        self.assertEqual(refusal(Written.read, "unit a\nend"), ("InvalidText", {"line": 1}))
        self.assertEqual(refusal(Written.read, None), unusable("text"))

    def test_by_name(self):
        self.assertEqual(Written(unit=MAIN).part_at(path=(0,)), "b")
        self.assertEqual(Judged(unit=MAIN).body_of(name="main"), MAIN[3][0][3])

    def test_iterated_more_than_once(self):
        one = Judged(UNIT)
        self.assertEqual([list(one), tuple(one), [function[0] for function in one]], [[F, G], (F, G), ["f", "g"]])


if __name__ == "__main__":
    unittest.main()
