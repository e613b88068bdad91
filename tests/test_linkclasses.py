import unittest

from linkneed.bundling import bundle
from linkneed.compiling import compile_unit
from linkneed.linkclasses import Linked
from linkneed.linking import link
from linkneed.loading import load
from linkneed.rowruns import run_linked
from tests.checks import refusal, same_kind, unusable
from tests.samples import A, ALONE, B, CASES, MAIN, ODD_VALUES, RING, TWICE
from tests.test_linking import PASSES, bundled
from tests.unitsamples import bound_units

OBJECT = ((), (B, A))


class LinkedTest(unittest.TestCase):
    def test_example(self):
        self.assertEqual(Linked.of_units(MAIN, TWICE).run((5,), 9), ((), ("gave", (15,)), 2))

    def test_properties(self):
        one = Linked(OBJECT, 7)
        self.assertTrue(same_kind([one.program_laid, one.registers_needed, one.titles_laid], [link(OBJECT, 7), 2, ("main", "twice")]))
        self.assertEqual(one.words(), load(link(OBJECT, 2))[0])
        spare = ("spare", (), "word", 9, ((("back",),),))
        self.assertEqual(Linked(((), (B, spare, A)), 2).titles_laid, ("main", "twice"))
        with self.assertRaises(AttributeError):
            one.registers_needed = 3

    def test_functions(self):
        one = Linked(registers=2, one=OBJECT)
        self.assertEqual([one.rows_of("twice"), one.rows_of(name="main")], [link(OBJECT, 2)[3][1][2], link(OBJECT, 2)[3][0][2]])
        self.assertEqual([one.base_of("twice"), one.base_of(name="main")], [1, 0])
        self.assertEqual(["main" in one, "twice" in one, "Main" in one], [True, True, False])
        for thing in ODD_VALUES + ("ghost", ["main"], ("main",)):
            self.assertIs(thing in one, False)
            self.assertEqual(refusal(one.rows_of, thing), ("Missing", {"title": thing}))
            self.assertEqual(refusal(one.base_of, thing), ("Missing", {"title": thing}))

    def test_run(self):
        one = Linked(OBJECT, 2)
        self.assertEqual(one.run(most=1, args=(5,)), ((), ("on",), 1))
        self.assertEqual(refusal(one.run, (), -1), unusable("args"))
        self.assertEqual(refusal(one.run, (5,), -1), unusable("most"))
        self.assertEqual(Linked(((), (RING,)), 2).run((20,), 40), ((), ("fault", "deep", "main", 0), 16))

    def test_within(self):
        one = Linked(OBJECT, 2)
        other = one.within(registers=9)
        self.assertEqual([type(other), other == one, other is one], [Linked, True, False])
        self.assertEqual(refusal(one.within, 1), ("Beyond", {"need": 2}))
        for thing in (0, 17, True, None):
            self.assertEqual(refusal(one.within, thing), unusable("registers"))
        self.assertEqual(one.program_laid, link(OBJECT, 2))

    def test_equality(self):
        one = Linked(OBJECT, 2)
        spare = ("spare", (), "word", 9, ((("back",),),))
        self.assertTrue(one == Linked(((), (B, spare, A)), 16) and not one != Linked(OBJECT, 3))
        self.assertFalse(one == Linked(((), (RING,)), 2))
        for thing in (None, OBJECT, one.program_laid, True):
            self.assertFalse(one == thing)

    def test_of_units(self):
        one = Linked.of_units(TWICE, MAIN, names=("fold", "drop"), registers=3)
        whole = bundle(tuple(compile_unit(unit, ("fold", "drop")) for unit in (MAIN, TWICE)))
        self.assertEqual([type(one), one == Linked(whole, 3)], [Linked, True])
        self.assertEqual(Linked.of_units(ALONE).program_laid, link(compile_unit(ALONE, ()), 16))
        self.assertEqual(Linked.of_units(MAIN, TWICE), Linked(OBJECT, 2))
        for seed, units in enumerate(bound_units(15, seed=67)):
            names = PASSES[seed % 3]
            try:
                linked = link(bundled(units, names), 16)
            except ValueError:
                self.assertEqual(refusal(Linked.of_units, *units, names=names), refusal(link, bundled(units, names), 16))
            else:
                one = Linked.of_units(*units, names=names)
                self.assertEqual([one.program_laid, one.words()], [linked, load(linked)[0]])
                args = (0,) * linked[1]
                self.assertEqual(one.run(args, 20), run_linked(linked, args, 20))

    def test_sixteen_registers_unless_told_otherwise(self):
        for many in (15, 16, 17):
            titles = [f"v{number}" for number in range(many)]
            body = tuple(("let", title, ("number", number)) for number, title in enumerate(titles))
            body += tuple(("tell", ("name", title)) for title in titles)
            unit = ("wide", (), (), (("main", (), "word", body),))
            if many == 17:
                self.assertEqual(refusal(Linked.of_units, unit), ("Beyond", {"need": 17}))
            else:
                one = Linked.of_units(unit)
                self.assertEqual([one.registers_needed, one.run((), 1)], [many, (tuple(range(many)), ("gave", (0,)), 1)])
                self.assertEqual(refusal(one.within, many - 1), ("Beyond", {"need": many}))

    def test_refusals_in_order(self):
        twice = ("c", (), (), TWICE[3])
        use = ("d", (), (("twice", ("word", "word"), "word"),), ())
        self.assertEqual(refusal(Linked.of_units, TWICE, twice, names=("folds",), registers=0), unusable("names"))
        self.assertEqual(refusal(Linked.of_units, TWICE, use, twice, registers=0), ("Twice", {"title": "twice"}))
        self.assertEqual(refusal(Linked.of_units, TWICE, use, registers=0), ("Unlike", {"title": "twice"}))
        self.assertEqual(refusal(Linked.of_units, MAIN, registers=0), unusable("registers"))
        self.assertEqual(refusal(Linked.of_units, MAIN, registers=1), ("Missing", {"title": "twice"}))
        self.assertEqual(refusal(Linked.of_units, TWICE, registers=1), ("Missing", {"title": "main"}))
        self.assertEqual(refusal(Linked.of_units, MAIN, TWICE, registers=1), ("Beyond", {"need": 2}))
        for thing in ODD_VALUES + (((), (B,)),):
            self.assertEqual(refusal(Linked, thing, None), unusable("one"))
        for thing in [thing for thing in ODD_VALUES if thing != 1 or thing is True]:
            self.assertEqual(refusal(Linked, OBJECT, thing), unusable("registers"))
        self.assertEqual(refusal(Linked, ((), (A,)), 1), ("Missing", {"title": "main"}))
        self.assertEqual(refusal(Linked, OBJECT, 1), ("Beyond", {"need": 2}))

    def test_cases(self):
        self.assertEqual(Linked.of_units(CASES).run((1, 2, 9), 50), ((2, 1), ("fault", "nought", "main", 0), 4))


if __name__ == "__main__":
    unittest.main()
