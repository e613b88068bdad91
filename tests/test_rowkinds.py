import unittest

from linkneed.rowkinds import is_object, is_piece, is_row
from tests.samples import A, B, ODD_VALUES, RING

OPT = ((), ("word",))
ROWS = (
    ("number", 0, 65535), ("number", 99, 0), ("move", 3, 3), ("swap", 0, 1), ("add", 1, 2, 3), ("sub", 0, 0, 0),
    ("mul", 10 ** 20, 0, 0), ("less", 0, 1, 0), ("same", 0, 0, 1), ("div", 0, 1, 2, 0), ("rem", 0, 1, 2, 10 ** 9),
    ("tell", 5), ("beat",), ("keep", 0), ("fetch", 7), ("jump", 0), ("jump", 10 ** 9), ("nought", 0, 12),
    ("call", "main", 0), ("call", "f", 77), ("back",))
OPEN = ("call", "f", 3, (1, 0), (1, 1), 1)


def piece(blocks, own=3, takes=(), gives="word"):
    return ("g", takes, gives, own, blocks)


class RowTest(unittest.TestCase):
    def test_rows(self):
        for row in ROWS:
            self.assertIs(is_row(row), True)

    def test_other_values(self):
        for thing in [thing for thing in ODD_VALUES if thing != ("beat",)] + [OPEN, ("twice", 0), ("number",), "beat", ([],), ([0], 1)]:
            self.assertIs(is_row(thing), False)

    def test_other_lengths_and_parts(self):
        for row in ROWS:
            self.assertIs(is_row(list(row)), False)
            self.assertIs(is_row(row + (0,)), False)
            self.assertIs(is_row(row[:-1]), False)
            for at in range(1, len(row)):
                for thing in (-1, True, None, "f2", (0,), [0]):
                    if thing != "f2" or row[at] not in ("main", "f"):
                        self.assertIs(is_row(row[:at] + (thing,) + row[at + 1:]), False)
        self.assertIs(is_row(("number", 0, 65536)), False)
        self.assertIs(is_row(("call", "Main", 0)), False)
        self.assertIs(is_row(("call", "word", 0)), False)
        self.assertIs(is_row((("beat",),)), False)

    def test_by_name(self):
        self.assertIs(is_row(thing=("back",)), True)


class PieceTest(unittest.TestCase):
    def test_pieces(self):
        for thing in (A, B, RING, piece(((("back",),),), 1), piece(((), (), (("jump", 0),)), 1),
                      piece(((OPEN, ("nought", 2, 1)), (("jump", 1),))), piece(((("nought", 0, 0), ("jump", 0)),)),
                      piece(((("nought", 0, 0),), (("back",),))), piece(((("back",),),), 4, (OPT, "word", "word"), OPT),
                      piece(((("back",),),), 0, (), ((),)), piece(((("jump", 0),), (("back",),)), 1)):
            self.assertIs(is_piece(thing), True)

    def test_forms(self):
        for thing in ODD_VALUES + (A[:4], A + (0,), list(A), ("Twice",) + A[1:], A[:1] + (["word"],) + A[2:],
                                   A[:1] + (("words",),) + A[2:], A[:1] + ("word",) + A[2:], A[:1] + (((),),) + A[2:],
                                   A[:2] + ((),) + A[3:], A[:2] + (["word"],) + A[3:], A[:2] + (("word",),) + A[3:],
                                   A[:2] + ((["word"],),) + A[3:], A[:2] + (None,) + A[3:], A[:3] + (-1,) + A[4:],
                                   A[:3] + (True,) + A[4:], A[:3] + ("1",) + A[4:], A[:4] + ((),), A[:4] + ([A[4]],), A[:4] + (list(A[4]),),
                                   A[:2] + ((("word",), ("words",)),) + A[3:], A[:2] + ((None, ()),) + A[3:],
                                   A[:4] + ((list(A[4][0]),),), A[:4] + (A[4][0],), A[:4] + (((None, ("back",)),),)):
            self.assertIs(is_piece(thing), False)

    def test_only_rows_of_pieces(self):
        for row in ROWS:
            if row[0] not in ("jump", "nought", "back"):
                small = row[:1] + tuple(0 if isinstance(part, int) else part for part in row[1:])
                expected = row[0] not in ("keep", "fetch", "call")
                self.assertIs(is_piece(piece(((small, ("back",)),))), expected)

    def test_registers_are_below_own(self):
        for row in (("number", 2, 9), ("move", 2, 0), ("move", 0, 2), ("swap", 0, 2), ("add", 2, 0, 0), ("same", 0, 2, 0),
                    ("less", 0, 0, 2), ("div", 0, 0, 2, 9), ("rem", 0, 2, 0, 9), ("tell", 2), ("call", "f", 9, (2,), (), 1),
                    ("call", "f", 9, (), (0, 2), 1)):
            self.assertIs(is_piece(piece(((row, ("back",)),), 3)), True)
            self.assertIs(is_piece(piece(((row, ("back",)),), 2)), False)
        self.assertIs(is_piece(piece(((("nought", 2, 0), ("jump", 0)),), 3)), True)
        self.assertIs(is_piece(piece(((("nought", 2, 0), ("jump", 0)),), 2)), False)

    def test_what_is_taken_given_and_kept_fits(self):
        self.assertIs(is_piece(piece(((("back",),),), 2, ("word", OPT))), False)
        self.assertIs(is_piece(piece(((("back",),),), 3, ("word", OPT))), True)
        self.assertIs(is_piece(piece(((("back",),),), 1, (), OPT)), False)
        self.assertIs(is_piece(piece(((("back",),),), 2, (), OPT)), True)
        for held, many, fits in (((0, 1), 0, True), ((0, 1), 1, False), ((), 3, False), ((1,), 1, True), ((), 2, True)):
            self.assertIs(is_piece(piece(((("call", "f", 0, held, (), many), ("back",)),), 2)), fits)
        self.assertIs(is_piece(piece(((("call", "f", 0, (), (0, 0, 1, 1), 0), ("back",)),), 2)), True)

    def test_open_rows(self):
        for row in (("call", "f", 0, (0,), (0,)), ("call", "F", 0, (), (), 1), ("call", "f", -1, (), (), 1),
                    ("call", "f", True, (), (), 1), ("call", "f", 0, (0, 0), (), 1), ("call", "f", 0, [0], (), 1),
                    ("call", "f", 0, (), [0], 1), ("call", "f", 0, (-1,), (), 1), ("call", "f", 0, (), (True,), 1),
                    ("call", "f", 0, (), (), -1), ("call", "f", 0, (), (), True), ("call", "f", 0, (), (), None),
                    ["call", "f", 0, (), (), 1], ("call", "f", 0, 0, 0, 1), ("tell", "f", 0, (), (), 1)):
            self.assertIs(is_piece(piece(((row, ("back",)),))), False)

    def test_endings(self):
        back, jump, nought, beat = ("back",), ("jump", 0), ("nought", 0, 1), ("beat",)
        for rows, fits in (((), True), ((beat,), True), ((back,), True), ((jump,), True), ((nought,), True),
                           ((nought, jump), True), ((beat, nought, jump), True), ((back, beat), False), ((jump, back), False),
                           ((nought, back), False), ((nought, nought), False), ((jump, jump), False), ((jump, nought), False),
                           ((nought, beat), False), ((nought, nought, jump), False), ((back, nought, jump), False),
                           ((back, back), False)):
            self.assertIs(is_piece(piece((rows, (back,)))), fits)
            last = fits and len(rows) > 0 and rows[-1] in (back, jump)
            self.assertIs(is_piece(piece(((beat,), rows))), last)

    def test_jumps_name_blocks(self):
        self.assertIs(is_piece(piece(((("jump", 1),), (("back",),)))), True)
        self.assertIs(is_piece(piece(((("nought", 0, 2),), (("jump", 2),), (("back",),)), 1)), True)
        self.assertIs(is_piece(piece(((("jump", 2),), (("back",),)))), False)
        self.assertIs(is_piece(piece(((("nought", 0, 2),), (("back",),)))), False)

    def test_by_name(self):
        self.assertIs(is_piece(thing=A), True)


class ObjectTest(unittest.TestCase):
    def test_example(self):
        self.assertIs(is_object(((), (B,))), False)
        self.assertIs(is_object(((), (B, A))), True)

    def test_objects(self):
        use = ("twice", ("word",), "word")
        for thing in (((), ()), ((use,), ()), ((use,), (B,)), ((("a", (), OPT), use), (B,)), ((), (RING,)),
                      ((("a", ("word",), OPT), ("b", (), "word"), ("c", (), OPT)), ())):
            self.assertIs(is_object(thing), True)

    def test_sets_are_ascending(self):
        for thing in (((), (A, B)), ((), (A, A)), ((("b", (), "word"), ("a", (), "word")), ()),
                      ((("a", (), "word"), ("a", (), "word")), ()), ((("a", (), "word"), ("a", (), OPT)), ())):
            self.assertIs(is_object(thing), False)

    def test_titles_are_unlike(self):
        self.assertIs(is_object(((("twice", ("word",), "word"),), (A,))), False)
        self.assertIs(is_object(((("twice", (), OPT),), (A,))), False)

    def test_calls_agree_by_words(self):
        for takes, gives, fits in ((("word",), "word", True), ((), "word", False), (("word", "word"), "word", False),
                                   (("word",), OPT, False), (("word",), ((),), False), ((((), ()),), "word", True),
                                   (("word", ((),)), (("word",),), True)):
            self.assertIs(is_object(((("twice", takes, gives),), (B,))), fits)
        caller = piece(((("call", "f", 0, (0, 1), (2,), 1), ("back",)),))
        for takes, fits in (((), False), (("word",), True), (("word", "word"), False)):
            self.assertIs(is_object(((("f", takes, "word"),), (caller,))), fits)

    def test_forms(self):
        use = ("twice", ("word",), "word")
        for thing in ODD_VALUES + (((), (), ()), ((),), [(), ()], ([], ()), ((), []), ((), [B, A]), ((), (B, None)),
                                   ((use[:2],), ()), ((list(use),), ()), ((use + (0,),), ()), ((("Twice",) + use[1:],), ()),
                                   ((("twice", ["word"], "word"),), ()), ((("twice", ("word",), None),), ()), (None, ())):
            self.assertIs(is_object(thing), False)

    def test_by_name(self):
        self.assertIs(is_object(thing=((), (B, A))), True)


if __name__ == "__main__":
    unittest.main()
