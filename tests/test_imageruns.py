import random
import unittest

from linkneed.imageruns import run_image
from tests import oracles
from tests.checks import refusal, same_kind, unusable
from tests.samples import OPERATIONS

# What load is to make of TWICE and MAIN, by the document.
IMAGE = ((0, 8448, 61440, 6, 16400, 256, 0, 16657, 256), 0, 2, 1, 1, ((2, "main", 0),))
PLAIN = {"beat": 0, "back": 1, "tell": 2, "keep": 3, "fetch": 4}


def encoded(rows, long_rows=()):
    """The words of rows whose targets are rows, the rows numbered in long_rows being long."""
    lengths = [2 if row[0] in ("number", "call") or number in long_rows else 1 for number, row in enumerate(rows)]
    starts = [sum(lengths[:number]) for number in range(len(rows) + 1)]
    words = []
    for number, row in enumerate(rows):
        if row[0] in PLAIN:
            words.append(PLAIN[row[0]] * 256 + (row[1] * 16 if len(row) == 2 else 0))
        elif row[0] == "number":
            words += [4096 + row[1] * 256, row[2]]
        elif row[0] in ("move", "swap"):
            words.append((2 if row[0] == "move" else 3) * 4096 + row[1] * 256 + row[2] * 16)
        elif row[0] in OPERATIONS:
            words.append((4 + OPERATIONS.index(row[0])) * 4096 + row[1] * 256 + row[2] * 16 + row[3])
        elif row[0] == "call":
            words += [15 * 4096, starts[row[1]]]
        else:
            first = (11 if row[0] == "jump" else 13) * 4096 + (row[1] * 256 if row[0] == "nought" else 0)
            if number in long_rows:
                words += [first + 4096, starts[row[-1]]]
            else:
                assert -8 <= starts[row[-1]] - starts[number] <= 7
                words.append(first + starts[row[-1]] - starts[number] + 8)
    return tuple(words), starts


def image_of(rows, need, takes, gives, long_rows=(), start=0, title="main"):
    words, starts = encoded(rows, long_rows)
    placed = [number for number, row in enumerate(rows) if row[0] in ("div", "rem", "call")]
    places = tuple((starts[number], title, at) for at, number in enumerate(placed))
    return (words, starts[start], need, takes, gives, places)


class ImageRunsTest(unittest.TestCase):
    def test_example(self):
        self.assertEqual(run_image(IMAGE, (5,), 9), ((), ("gave", (15,)), 2))
        self.assertEqual(run_image(IMAGE, (5,), 1), ((), ("on",), 1))
        self.assertEqual(run_image(IMAGE, (5,), 0), ((), ("on",), 0))
        self.assertEqual(run_image(IMAGE, (65535,), 2), ((), ("gave", (65533,)), 2))

    def test_encoding_is_that_of_the_example(self):
        rows = (("beat",), ("move", 1, 0), ("call", 5), ("add", 0, 1, 0), ("back",), ("beat",), ("add", 1, 1, 1), ("back",))
        self.assertEqual(image_of(rows, 2, 1, 1), IMAGE)

    def test_registers_begin_with_0(self):
        image = image_of((("tell", 2), ("tell", 0), ("back",)), 3, 1, 3)
        self.assertEqual(run_image(image, (9,), 0), ((0, 9), ("gave", (9, 0, 0)), 0))

    def test_nothing_taken_or_given(self):
        self.assertEqual(run_image(image_of((("back",),), 0, 0, 0), (), 0), ((), ("gave", ()), 0))

    def test_moving_rows(self):
        image = image_of((("number", 2, 700), ("move", 3, 2), ("swap", 0, 3), ("back",)), 4, 2, 4)
        self.assertEqual(run_image(image, (1, 2), 0), ((), ("gave", (700, 2, 700, 1)), 0))

    def test_high_registers(self):
        image = image_of((("number", 15, 65535), ("move", 14, 15), ("swap", 15, 0), ("sub", 13, 14, 15), ("tell", 13),
                          ("keep", 14), ("fetch", 12), ("tell", 12), ("nought", 11, 10), ("tell", 0), ("back",)), 16, 1, 1)
        self.assertEqual(run_image(image, (9,), 0), ((65526, 65535), ("gave", (65535,)), 0))

    def test_operations(self):
        for operation in OPERATIONS:
            image = image_of(((operation, 2, 0, 1), ("tell", 2), ("back",)), 3, 2, 1)
            for one, other in ((9, 4), (4, 9), (0, 65535), (65535, 65535), (300, 300)):
                word = oracles.worked(operation, one, other)
                outcome = run_image(image, (one, other), 3)
                self.assertTrue(same_kind(outcome, ((word,), ("gave", (one,)), 0)))

    def test_a_row_reads_ahead_of_writing(self):
        image = image_of((("sub", 0, 1, 0), ("back",)), 2, 2, 1)
        self.assertEqual(run_image(image, (3, 10), 0), ((), ("gave", (7,)), 0))

    def test_noughts(self):
        for operation in ("div", "rem"):
            rows = (("tell", 0), ("div", 0, 0, 1), (operation, 0, 0, 2), ("back",))
            self.assertEqual(run_image(image_of(rows, 3, 3, 1), (8, 0, 0), 0), ((8,), ("fault", "nought", "main", 0), 0))
            self.assertEqual(run_image(image_of(rows, 3, 3, 1, title="f"), (8, 1, 0), 0),
                             ((8,), ("fault", "nought", "f", 1), 0))

    def test_jumps_and_noughts(self):
        rows = (("beat",), ("nought", 0, 6), ("tell", 0), ("number", 1, 1), ("sub", 0, 0, 1), ("jump", 0), ("back",))
        for long_rows in ((), (1,), (5,), (1, 5)):
            image = image_of(rows, 2, 1, 1, long_rows)
            self.assertEqual(run_image(image, (3,), 9), ((3, 2, 1), ("gave", (0,)), 4))
            self.assertEqual(run_image(image, (3,), 4), ((3, 2, 1), ("gave", (0,)), 4))
            self.assertEqual(run_image(image, (3,), 3), ((3, 2, 1), ("on",), 3))
            self.assertEqual(run_image(image, (3,), 2), ((3, 2), ("on",), 2))

    def test_farthest_short_jumps(self):
        rows = (("jump", 3), ("back",), ("beat",)) + (("jump", 7),) + (("beat",),) * 2 + (("back",), ("jump", 1))
        self.assertEqual(run_image(image_of(rows, 1, 1, 1), (4,), 9), ((), ("gave", (4,)), 0))
        ahead = (("jump", 7),) + (("beat",),) * 6 + (("back",),)
        self.assertEqual(encoded(ahead)[0][0] & 15, 15)
        self.assertEqual(run_image(image_of(ahead, 1, 1, 1), (4,), 9), ((), ("gave", (4,)), 0))
        back = (("back",),) + (("beat",),) * 7 + (("jump", 0),)
        self.assertEqual(encoded(back)[0][8] & 15, 0)
        self.assertEqual(run_image(image_of(back, 1, 1, 1, start=8), (4,), 9), ((), ("gave", (4,)), 0))

    def test_main_need_not_be_first(self):
        rows = (("beat",), ("add", 1, 1, 1), ("back",), ("beat",), ("move", 1, 0), ("call", 0), ("move", 0, 1), ("back",))
        self.assertEqual(run_image(image_of(rows, 2, 1, 1, start=3), (6,), 5), ((), ("gave", (12,)), 2))

    def test_the_pile(self):
        rows = (("keep", 0), ("keep", 1), ("number", 0, 0), ("number", 1, 0), ("fetch", 0), ("fetch", 1), ("back",))
        self.assertEqual(run_image(image_of(rows, 2, 2, 2), (3, 4), 0), ((), ("gave", (4, 3)), 0))

    def ring(self, depth):
        # main calls itself until its word is 0, and adds 1 for each call.
        rows = (("beat",), ("nought", 0, 9), ("number", 1, 1), ("sub", 1, 0, 1), ("keep", 0), ("move", 0, 1), ("call", 0),
                ("fetch", 0), ("back",), ("back",))
        return run_image(image_of(rows, 2, 1, 1, (1,)), (depth,), 40)

    def test_sixteen_are_open_at_most(self):
        self.assertEqual(self.ring(20), ((), ("fault", "deep", "main", 0), 16))
        self.assertEqual(self.ring(16), ((), ("fault", "deep", "main", 0), 16))
        self.assertEqual(self.ring(15), ((), ("gave", (15,)), 16))
        self.assertEqual(self.ring(0), ((), ("gave", (0,)), 1))

    def test_deep_comes_ahead_of_the_beat_of_the_called_one(self):
        rows = (("beat",), ("call", 0), ("back",))
        image = image_of(rows, 1, 1, 1)
        self.assertEqual(run_image(image, (1,), 16), ((), ("fault", "deep", "main", 0), 16))
        self.assertEqual(run_image(image, (1,), 15), ((), ("on",), 15))

    def test_straight_rows_at_random(self):
        for seed in range(40):
            source = random.Random(seed)
            cells = [source.randrange(65536) for _ in range(3)]
            args = tuple(cells)
            cells += [0, 0]
            rows = []
            for _ in range(30):
                one, other, third = (source.randrange(5) for _ in range(3))
                operation = source.choice(("add", "sub", "mul", "less", "same"))
                rows.append((operation, one, other, third))
                cells[one] = oracles.worked(operation, cells[other], cells[third])
            rows.append(("back",))
            self.assertEqual(run_image(image_of(rows, 5, 3, 5), args, 0), ((), ("gave", tuple(cells)), 0))

    def test_refusals_in_order(self):
        for args in ((), (1, 2), (True,), (-1,), (65536,), ("1",), [5], 5, None, "5", ((5,),)):
            self.assertEqual(refusal(run_image, IMAGE, args, -1), unusable("args"))
        for most in (-1, True, None, "9", (9,), [9]):
            self.assertEqual(refusal(run_image, IMAGE, (5,), most), unusable("most"))

    def test_by_name(self):
        self.assertEqual(run_image(most=9, args=(5,), image=IMAGE), ((), ("gave", (15,)), 2))


if __name__ == "__main__":
    unittest.main()
