import random
import unittest

from linkneed.basing import bases_of, need_of
from linkneed.bundling import bundle
from linkneed.compiling import compile_unit
from linkneed.laying import laid
from linkneed.linking import link
from linkneed.pieces import piece_of
from linkneed.ringing import rings_of
from linkneed.rowkinds import is_row
from linkneed.rowruns import run_linked
from linkneed.transferring import transfer_rows
from tests import linkoracles
from tests.checks import refusal, same_kind, unusable
from tests.samples import A, ALONE, B, CASES, FAR, LOOP, MAIN, ODD_VALUES, RING, TWICE
from tests.unitsamples import TreeRun, bound_units, some_args

OBJECT = ((), (B, A))
PASSES = ((), ("fold", "drop"), ("straighten", "fold", "lift", "drop"))


def sheets_of_pieces(pieces):
    return tuple((piece[0], piece[3], tuple((row[1], len(row[3])) for block in piece[4] for row in block
                                            if row[0] == "call")) for piece in pieces)


def bundled(units, names):
    return bundle(tuple(compile_unit(unit, names) for unit in units))


def held_of_ring_calls(pieces):
    """How many marks are across each ring call, by the caller and the number of the place."""
    sheets = sheets_of_pieces(pieces)
    return {(piece[0], row[2]): len(row[3]) for piece in pieces for block in piece[4] for row in block
            if row[0] == "call" and (row[1] == piece[0] or piece[0] in linkoracles.reached(sheets, row[1]))}


class LayingTest(unittest.TestCase):
    def test_example(self):
        self.assertEqual(laid(RING, (("main", 0),), (("main",),)), (
            ("beat",), ("nought", 0, 11), ("number", 1, 1), ("sub", 1, 0, 1), ("keep", 0), ("move", 0, 1),
            ("call", "main", 0), ("move", 1, 0), ("fetch", 0), ("add", 0, 1, 0), ("back",), ("back",)))

    def test_no_ring(self):
        self.assertEqual(laid(B, (("twice", 1), ("main", 0)), ()), (
            ("beat",), ("move", 1, 0), ("call", "twice", 0), ("add", 0, 1, 0), ("back",)))
        self.assertEqual(laid(B, (("main", 3), ("twice", 6)), (("twice",), ("main",))), (
            ("beat",), ("move", 6, 3), ("call", "twice", 0), ("move", 4, 6), ("add", 3, 4, 3), ("back",)))

    def test_any_bases(self):
        self.assertEqual(laid(B, (("main", 3), ("twice", 0)), ()), (
            ("beat",), ("move", 0, 3), ("call", "twice", 0), ("move", 4, 0), ("add", 3, 4, 3), ("back",)))

    def test_what_is_held_moves_down(self):
        piece = piece_of(FAR, ("word",) * 3, "word")
        self.assertEqual(laid(piece, (("far", 0), ("twice", 1)), ()), (
            ("move", 1, 0), ("move", 0, 2), ("call", "twice", 0), ("add", 0, 0, 1), ("back",)))

    def test_several_held_in_a_ring(self):
        piece = ("f", ("word",) * 3, "word", 3, ((("call", "g", 4, (2, 0), (1, 1), 1), ("back",)),))
        self.assertEqual(laid(piece, (("f", 5), ("g", 5)), (("f", "g"), ("h",))), (
            ("keep", 7), ("keep", 5), ("move", 5, 6), ("call", "g", 4), ("move", 7, 5), ("fetch", 6), ("fetch", 5), ("back",)))

    def test_a_ring_with_both(self):
        rings = (("main", "zz"), ("twice",))
        self.assertNotIn(("keep", 0), laid(B, (("twice", 1), ("main", 0)), rings))
        self.assertIn(("keep", 0), laid(B, (("twice", 0), ("main", 0)), (("a",), ("main", "twice"))))

    def test_other_rows_are_raised(self):
        piece = ("f", ("word",), "word", 3, (
            (("number", 1, 7), ("move", 2, 1), ("swap", 0, 2), ("div", 0, 1, 2, 9), ("less", 2, 1, 0), ("tell", 1), ("beat",)),
            (("nought", 2, 0), ("jump", 2)), (("jump", 1),)))
        self.assertEqual(laid(piece, (("f", 4),), ()), (
            ("number", 5, 7), ("move", 6, 5), ("swap", 4, 6), ("div", 4, 5, 6, 9), ("less", 6, 5, 4), ("tell", 5), ("beat",),
            ("nought", 6, 0), ("jump", 9), ("jump", 7)))

    def test_empty_blocks(self):
        piece = ("f", (), ((),), 1, ((), (("jump", 3),), (), (("beat",), ("nought", 0, 2)), (("back",),)))
        self.assertEqual(laid(piece, (("f", 0),), ()), (("jump", 1), ("beat",), ("nought", 0, 1), ("back",)))

    def test_random_pieces(self):
        for seed, units in enumerate(bound_units(40, seed=51)):
            pieces = bundled(units, PASSES[seed % 3])[1]
            sheets = sheets_of_pieces(pieces)
            bases, rings = bases_of(sheets), rings_of(sheets)
            for piece in pieces:
                if piece[0] in dict(bases):
                    told = linkoracles.told_laid(piece, bases, rings, transfer_rows)
                    self.assertEqual(laid(piece, bases[::-1], rings), told)

    def test_raised_by_one_number(self):
        for units in bound_units(25, seed=52):
            pieces = bundled(units, ())[1]
            sheets = sheets_of_pieces(pieces)
            bases, rings = bases_of(sheets), rings_of(sheets)
            raised = tuple((title, base + 3) for title, base in bases)
            for piece in pieces:
                if piece[0] in dict(bases):
                    rows = laid(piece, bases, rings)
                    self.assertEqual(len(rows), len(laid(piece, raised, rings)))
                    self.assertEqual(tuple(map(self.raised_row, rows)), laid(piece, raised, rings))

    def raised_row(self, row):
        if row[0] in ("number", "nought"):
            return (row[0], row[1] + 3, row[2])
        if row[0] in ("div", "rem"):
            return row[:1] + tuple(cell + 3 for cell in row[1:4]) + row[4:]
        if row[0] in ("jump", "call", "beat", "back"):
            return row
        return row[:1] + tuple(cell + 3 for cell in row[1:])

    def test_by_name(self):
        self.assertEqual(laid(rings=(), bases=(("main", 0), ("twice", 1)), piece=B)[1], ("move", 1, 0))


class LinkingTest(unittest.TestCase):
    def test_examples(self):
        main = ("main", 0, (("beat",), ("move", 1, 0), ("call", "twice", 0), ("add", 0, 1, 0), ("back",)))
        twice = ("twice", 1, (("beat",), ("add", 1, 1, 1), ("back",)))
        for registers in (2, 3, 16):
            self.assertEqual(link(OBJECT, registers), (2, 1, 1, (main, twice)))
        self.assertEqual(link(((), (RING,)), 2)[:3], (2, 1, 1))

    def test_only_what_main_reaches(self):
        spare = ("spare", (), "word", 9, ((("call", "main", 0, (0, 1, 2), (0,), 1), ("back",)),))
        self.assertEqual(link(((), (B, spare, A)), 2), link(OBJECT, 2))

    def test_what_main_takes_and_gives(self):
        opt = ((), ("word", "word"))
        piece = ("main", ("word", opt), (("word", "word"),), 5, ((("back",),),))
        self.assertEqual(link(((), (piece,)), 5), (5, 4, 2, (("main", 0, (("back",),)),)))

    def test_a_need_of_nothing(self):
        self.assertTrue(same_kind(link(((), (("main", (), ((),), 0, ((("back",),),)),)), 1),
                                  (0, 0, 0, (("main", 0, (("back",),)),))))

    def test_errors(self):
        use = ("twice", ("word",), "word")
        far = ("zz", ("word",), "word")
        self.assertEqual(refusal(link, ((use, far), (B,)), 1), ("Missing", {"title": "twice"}))
        self.assertEqual(refusal(link, ((far,), (B, A)), 1), ("Missing", {"title": "zz"}))
        self.assertEqual(refusal(link, ((use, far), ()), 1), ("Missing", {"title": "twice"}))
        self.assertEqual(refusal(link, ((), (A,)), 1), ("Missing", {"title": "main"}))
        self.assertEqual(refusal(link, ((), ()), 1), ("Missing", {"title": "main"}))
        self.assertEqual(refusal(link, OBJECT, 1), ("Beyond", {"need": 2}))
        wide = ("main", (), "word", 17, ((("back",),),))
        self.assertEqual(refusal(link, ((), (wide,)), 16), ("Beyond", {"need": 17}))

    def test_refusals(self):
        for thing in ODD_VALUES + (((), (B,)), [(), ()], ((), (A, B))):
            self.assertEqual(refusal(link, thing, None), unusable("one"))
        for thing in [thing for thing in ODD_VALUES if thing != 1 or thing is True] + [0, 17, 100]:
            self.assertEqual(refusal(link, OBJECT, thing), unusable("registers"))
            self.assertEqual(refusal(link, ((), (A,)), thing), unusable("registers"))

    def test_exactly_for_the_need(self):
        for seed, units in enumerate(bound_units(40, seed=53)):
            one = bundled(units, PASSES[seed % 3])
            need = need_of(sheets_of_pieces(one[1]))
            for registers in range(1, 17):
                if need > registers:
                    self.assertEqual(refusal(link, one, registers), ("Beyond", {"need": need}))
                else:
                    self.check_linked(one, link(one, registers), need)

    def check_linked(self, one, linked, need):
        sheets = sheets_of_pieces(one[1])
        pieces = {piece[0]: piece for piece in one[1]}
        self.assertEqual(linked[0], need)
        self.assertEqual(tuple((title, base) for title, base, _ in linked[3]), linkoracles.bases(sheets))
        for title, _, rows in linked[3]:
            told = linkoracles.told_laid(pieces[title], linkoracles.bases(sheets), linkoracles.rings(sheets), transfer_rows)
            self.assertEqual(rows, told)
            self.assertTrue(all(map(is_row, rows)))
            for row in rows:
                cells = {"number": row[1:2], "nought": row[1:2], "jump": (), "call": (), "div": row[1:4], "rem": row[1:4]}
                self.assertTrue(all(cell < need for cell in cells.get(row[0], row[1:])))

    def test_by_name(self):
        self.assertEqual(link(registers=2, one=OBJECT), link(OBJECT, 2))


class RunsTest(unittest.TestCase):
    def test_examples(self):
        self.assertEqual(run_linked(link(((), (RING,)), 2), (20,), 40), ((), ("fault", "deep", "main", 0), 16))
        linked = link(OBJECT, 2)
        self.assertEqual(run_linked(linked, (5,), 9), ((), ("gave", (15,)), 2))
        self.assertEqual(run_linked(linked, (5,), 1), ((), ("on",), 1))
        self.assertEqual(run_linked(linked, (5,), 0), ((), ("on",), 0))
        cases = link(compile_unit(CASES, ()), 16)
        self.assertEqual(run_linked(cases, (1, 2, 9), 50), ((2, 1), ("fault", "nought", "main", 0), 4))
        self.assertEqual(run_linked(cases, (1, 2, 9), 3), ((2, 1), ("on",), 3))
        self.assertEqual(run_linked(cases, (0, 0, 9), 50), ((), ("gave", (7,)), 1))

    def test_the_pile_gives_back(self):
        linked = link(((), (RING,)), 2)
        for depth in range(15):
            self.assertEqual(run_linked(linked, (depth,), 40), ((), ("gave", (sum(range(depth + 1)),)), depth + 1))
        self.assertEqual(run_linked(linked, (15,), 40)[1], ("gave", (120,)))
        self.assertEqual(run_linked(linked, (16,), 40)[1], ("fault", "deep", "main", 0))

    def test_deep_comes_ahead_of_on(self):
        linked = link(((), (RING,)), 2)
        self.assertEqual(run_linked(linked, (20,), 16), ((), ("fault", "deep", "main", 0), 16))
        self.assertEqual(run_linked(linked, (20,), 15), ((), ("on",), 15))

    def test_registers_begin_with_0(self):
        piece = ("main", ("word",), (("word", "word", "word"),), 3, ((("tell", 2), ("back",)),))
        self.assertEqual(run_linked(link(((), (piece,)), 3), (9,), 0), ((0,), ("gave", (9, 0, 0)), 0))

    def test_a_function_without_words(self):
        self.assertEqual(run_linked(link(compile_unit(ALONE, ()), 1), (), 1), ((), ("gave", (4,)), 1))
        nothing = ("main", (), ((),), 0, ((("back",),),))
        self.assertEqual(run_linked(link(((), (nothing,)), 1), (), 0), ((), ("gave", ()), 0))

    def test_loops(self):
        piece = piece_of(("main",) + LOOP[1:], ("word",), "word")
        linked = link(((), (piece,)), 3)
        self.assertEqual(run_linked(linked, (4,), 99), ((), ("gave", (10,)), 6))
        self.assertEqual(run_linked(linked, (3,), 4), ((), ("on",), 4))

    def test_faults_name_the_function_in_which_they_stand(self):
        unit = ("u", (), (), (
            ("main", (("n", "word"),), "word", (("give", ("add", ("call", "f", (("name", "n"),)), ("call", "f", (
                ("rem", ("number", 1), ("number", 0)),)))),)),
            ("f", (("n", "word"),), "word", (("tell", ("div", ("number", 9), ("number", 2))),
                                             ("give", ("div", ("number", 9), ("name", "n")))))))
        linked = link(compile_unit(unit, ()), 16)
        self.assertEqual(run_linked(linked, (0,), 9), ((4,), ("fault", "nought", "f", 1), 2))
        self.assertEqual(run_linked(linked, (3,), 9), ((4,), ("fault", "nought", "main", 2), 2))

    def test_runs_of_units(self):
        for seed, units in enumerate(bound_units(70, seed=54)):
            one = bundled(units, PASSES[seed % 3])
            need = need_of(sheets_of_pieces(one[1]))
            if not 1 <= need <= 16:
                continue
            linked = link(one, need)
            machine = linkoracles.RowMachine(linked, held_of_ring_calls(one[1]))
            for number in range(3):
                args = some_args(units, 7 * seed + number)
                for most in (0, 1, 3, 10, 90):
                    outcome = run_linked(linked, args, most)
                    self.assertTrue(same_kind(outcome, TreeRun(units, most).outcome(args)))
                    self.assertEqual(outcome, machine.outcome(args, most))
            self.assertTrue(machine.pile_holds)

    def test_units_that_call_round(self):
        source = random.Random(6)
        for seed in range(20):
            titles = ["main", "f", "g"]
            functions = []
            for title in titles:
                call = lambda: ("call", source.choice(titles), (("sub", ("name", "n"), ("number", source.randrange(1, 3))), (
                    "name", source.choice(("n", "k", "m")))))
                functions.append((title, (("n", "word"), ("k", "word")), "word", (
                    ("let", "m", ("mul", ("name", "k"), ("number", 3))),
                    ("if", ("less", ("name", "n"), ("number", 3)), (("give", ("add", ("name", "m"), ("name", "n"))),), ()),
                    ("let", "x", call()), ("tell", ("name", "x")),
                    ("if", ("rem", ("name", "x"), ("number", 2)), (("set", "x", ("add", call(), ("name", "x"))),), ()),
                    ("give", ("add", ("add", ("name", "x"), ("name", "k")), ("add", ("name", "m"), ("name", "n")))))))
            units = (("u", (), (), tuple(functions)),)
            one = bundled(units, PASSES[seed % 3])
            linked = link(one, 16)
            machine = linkoracles.RowMachine(linked, held_of_ring_calls(one[1]), rest=77)
            for args in ((2, 1), (5, 9), (9, 3), (30, 4)):
                for most in (3, 60, 400):
                    outcome = run_linked(linked, args, most)
                    self.assertEqual(outcome, TreeRun(units, most).outcome(args))
                    self.assertEqual(outcome, machine.outcome(args, most))
            self.assertTrue(machine.pile_holds)

    def test_refusals(self):
        linked = link(OBJECT, 2)
        for args in ((), (1, 2), (True,), (-1,), (65536,), ("1",), [5], 5, None, "5", ((5,),)):
            self.assertEqual(refusal(run_linked, linked, args, -1), unusable("args"))
        for most in (-1, True, None, "9", (9,), [9]):
            self.assertEqual(refusal(run_linked, linked, (5,), most), unusable("most"))

    def test_by_name(self):
        self.assertEqual(run_linked(most=9, args=(5,), linked=link(OBJECT, 2)), ((), ("gave", (15,)), 2))
        self.assertEqual(bundled((TWICE, MAIN), ()), OBJECT)


if __name__ == "__main__":
    unittest.main()
