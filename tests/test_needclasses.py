import unittest

from linkneed.basing import bases_of, need_of
from linkneed.changing import need_with
from linkneed.needclasses import Needing
from linkneed.ringing import rings_of
from linkneed.sheets import sheets_of
from tests import linkoracles
from tests.checks import refusal, same_kind, unusable
from tests.programsamples import programs
from tests.samples import FIVE, ODD_VALUES, ONE, TWO

NO_SHEETS = [thing for thing in ODD_VALUES if thing != ()] + [FIVE + FIVE[:1], list(FIVE), (("f", 1),), (("f", True, ()),)]
NO_SHEET = ODD_VALUES + (("f", 1), ["f", 1, ()], ("f", True, ()), ("f", 1, [("g", 1)]), ("F", 1, ()), FIVE)


def missing(title):
    return ("Missing", {"title": title})


class NeedWithTest(unittest.TestCase):
    def test_examples(self):
        self.assertEqual([need_with(FIVE, ("odd", 1, ())), need_with(FIVE, ("ghost", 99, ()))], [3, 6])

    def test_in_place_or_besides(self):
        self.assertEqual(need_with(FIVE, FIVE[0]), 6)
        self.assertEqual(need_with((), ("main", 4, ())), 4)
        self.assertEqual(need_with((("main", 1, (("f", 2),)),), ("f", 5, ())), 7)
        self.assertEqual(need_with(FIVE, ("leaf", 1, (("main", 7),))), 4)

    def test_errors(self):
        self.assertEqual(refusal(need_with, (), ("f", 4, ())), missing("main"))
        self.assertEqual(refusal(need_with, FIVE, ("leaf", 1, (("z", 1), ("a", 1)))), missing("z"))
        self.assertEqual(refusal(need_with, (("main", 1, (("f", 2),)),), ("g", 5, ())), missing("f"))
        for thing in NO_SHEETS:
            self.assertEqual(refusal(need_with, thing, None), unusable("sheets"))
        for thing in NO_SHEET:
            self.assertEqual(refusal(need_with, (), thing), unusable("sheet"))

    def test_random_sheets(self):
        for seed in range(100):
            sheets = linkoracles.random_sheets(seed)
            for sheet in linkoracles.random_sheets(seed + 500)[:3]:
                kept = {one[0]: one for one in sheets}
                kept[sheet[0]] = sheet
                whole = tuple(kept.values())
                try:
                    need = need_of(whole)
                except ValueError:
                    self.assertEqual(refusal(need_with, sheets, sheet), refusal(need_of, whole))
                else:
                    self.assertEqual(need_with(sheets, sheet), need)

    def test_by_name(self):
        self.assertEqual(need_with(sheet=("odd", 1, ()), sheets=FIVE), 3)


class NeedingTest(unittest.TestCase):
    def test_examples(self):
        one = Needing(FIVE)
        self.assertEqual([one.need_now, one.base_of("leaf"), one.bases(least=3), one.put(("odd", 1, ())).need_now, "ghost" in one,
                          len(one.without("even"))], [6, 4, (("leaf", 4),), 3, False, 4])
        with self.assertRaises(ValueError) as caught:
            one.without("leaf").need_now
        self.assertEqual((type(caught.exception).__name__, vars(caught.exception)), missing("leaf"))

    def test_sheets_ascend(self):
        one = Needing(FIVE)
        self.assertTrue(same_kind(one.sheets_now, tuple(sorted(FIVE))))
        self.assertEqual([list(one), len(one)], [sorted(FIVE), 5])
        self.assertEqual([len(Needing(())), list(Needing(())), Needing(()).sheets_now], [0, [], ()])

    def test_titles(self):
        one = Needing(FIVE)
        self.assertEqual([title in one for title in ("main", "even", "odd", "leaf", "spare", "ghost", "Main")], [True] * 5 + [False] * 2)
        for thing in ODD_VALUES + (FIVE[0], ["main"]):
            self.assertIs(thing in one, False)

    def test_bases(self):
        one = Needing(FIVE)
        self.assertEqual([one.bases(), one.bases(least=0), one.bases(least=5)], [bases_of(FIVE), bases_of(FIVE), ()])
        self.assertEqual(one.bases(least=2), (("even", 2), ("leaf", 4), ("odd", 2)))
        for thing in [thing for thing in ODD_VALUES if thing not in (0, 1, 10 ** 59) or isinstance(thing, bool)]:
            self.assertEqual(refusal(one.bases, least=thing), unusable("least"))
            self.assertEqual(refusal(Needing(()).bases, least=thing), unusable("least"))
        self.assertEqual(refusal(Needing(()).bases), missing("main"))
        self.assertRaises(TypeError, one.bases, 2)

    def test_base_of(self):
        one = Needing(FIVE)
        for title, base in bases_of(FIVE):
            self.assertEqual(one.base_of(name=title), base)
        for thing in ODD_VALUES + ("spare", "ghost", ["main"]):
            self.assertEqual(refusal(one.base_of, thing), missing(thing))
            self.assertEqual(refusal(one.without("leaf").base_of, thing), missing("leaf"))
        self.assertEqual(refusal(Needing(()).base_of, "f"), missing("main"))

    def test_rings(self):
        self.assertEqual(Needing(FIVE).rings(), (("even", "odd"),))
        for seed in range(30):
            sheets = linkoracles.random_sheets(seed, ghosts=True)
            self.assertEqual(Needing(sheets).rings(), rings_of(sheets))

    def test_put_and_without(self):
        one = Needing(FIVE)
        more = one.put(sheet=("ghost", 1, ()))
        self.assertEqual([type(more), len(more), len(one), "ghost" in more], [Needing, 6, 5, True])
        less = more.without(name="spare")
        self.assertEqual([type(less), less.sheets_now], [Needing, tuple(sorted(FIVE[:4] + (("ghost", 1, ()),)))])
        self.assertEqual(one, Needing(FIVE))
        for thing in NO_SHEET:
            self.assertEqual(refusal(one.put, thing), unusable("sheet"))
            self.assertEqual(refusal(one, thing), unusable("sheet"))
        for thing in ODD_VALUES + ("ghost", ["main"], FIVE[0]):
            self.assertEqual(refusal(one.without, thing), missing(thing))

    def test_called(self):
        one = Needing(FIVE)
        self.assertEqual([one(("odd", 1, ())), one(sheet=("ghost", 99, ())), one.need_now], [3, 6, 6])
        self.assertEqual(refusal(one, ("leaf", 1, (("z", 1),))), missing("z"))

    def test_of_program(self):
        one = Needing.of_program((TWO, ONE))
        self.assertEqual([one.sheets_now, one.need_now, type(one)], [sheets_of((ONE, TWO)), 2, Needing])
        for graphs in programs(20, seed=13):
            self.assertEqual(Needing.of_program(graphs=graphs).need_now, need_of(sheets_of(graphs)))

    def test_equality(self):
        one = Needing(FIVE)
        self.assertTrue(one == Needing(FIVE[::-1]) and not one != Needing(FIVE[::-1]))
        self.assertFalse(one == one.without("spare"))
        for thing in (None, FIVE, one.sheets_now, True, []):
            self.assertFalse(one == thing)

    def test_refusals(self):
        for thing in NO_SHEETS:
            self.assertEqual(refusal(Needing, thing), unusable("sheets"))
        self.assertEqual(Needing(sheets=FIVE), Needing(FIVE))
        with self.assertRaises(AttributeError):
            Needing(FIVE).need_now = 3

    def test_random_sheets(self):
        for seed in range(60):
            sheets = linkoracles.random_sheets(seed, ghosts=seed % 3 == 0)
            one = Needing(sheets)
            try:
                need = need_of(sheets)
            except ValueError as error:
                with self.assertRaises(type(error)) as caught:
                    one.need_now
                self.assertEqual(vars(caught.exception), vars(error))
            else:
                self.assertEqual([one.need_now, one.bases()], [need, linkoracles.bases(sheets)])


if __name__ == "__main__":
    unittest.main()
