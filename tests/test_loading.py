import unittest

from linkneed.compiling import compile_unit
from linkneed.imageruns import run_image
from linkneed.linking import link
from linkneed.loading import load, rows_in
from linkneed.rowruns import run_linked
from tests.checks import same_kind
from tests.samples import A, ALONE, B, CASES, OPERATIONS, RING
from tests.test_imageruns import IMAGE, PLAIN
from tests.test_layouts import told_holds
from tests.test_linking import PASSES, bundled, sheets_of_pieces
from tests.unitsamples import bound_units, some_args
from tests import linkoracles

LINKED = link(((), (B, A)), 2)


def least_long(rows):
    """The rows that are long in the least layout, one after another as they are found to be too far."""
    things = tuple(("jump", row[-1]) if row[0] in ("jump", "nought") else 2 if row[0] in ("number", "call") else 1 for row in rows)
    chosen = ()
    while not told_holds(things, -8, 7, chosen):
        far = [at for at, thing in enumerate(things) if isinstance(thing, tuple) and at not in chosen
               and not told_holds(tuple(one if number == at or isinstance(one, int) else 2 if number in chosen else 1
                                        for number, one in enumerate(things)), -8, 7, ())]
        chosen += tuple(far)
    return chosen


def told_load(linked):
    """The image by the words of the document."""
    need, takes, gives, functions = linked
    starts, addresses, behind = {}, {}, 0
    for title, _, rows in functions:
        chosen = least_long(rows)
        starts[title] = behind
        addresses[title] = []
        for at, row in enumerate(rows):
            addresses[title].append(behind)
            behind += 2 if row[0] in ("number", "call") or at in chosen else 1
        addresses[title].append(behind)
    words, places = [], []
    for title, _, rows in functions:
        here = addresses[title]
        for at, row in enumerate(rows):
            many = here[at + 1] - here[at]
            if row[0] in PLAIN:
                words.append(PLAIN[row[0]] * 256 + sum(row[1:]) * 16)
            elif row[0] == "number":
                words += [4096 + row[1] * 256, row[2]]
            elif row[0] in ("move", "swap"):
                words.append({"move": 2, "swap": 3}[row[0]] * 4096 + row[1] * 256 + row[2] * 16)
            elif row[0] in OPERATIONS:
                words.append((4 + OPERATIONS.index(row[0])) * 4096 + row[1] * 256 + row[2] * 16 + row[3])
            elif row[0] == "call":
                words += [15 * 4096, starts[row[1]]]
            else:
                first = {"jump": 11, "nought": 13}[row[0]] * 4096 + (row[1] * 256 if row[0] == "nought" else 0)
                target = here[row[-1]]
                words += [first + 4096, target] if many == 2 else [first + target - here[at] + 8]
            if row[0] in ("div", "rem", "call"):
                places.append((here[at], title, row[-1]))
    return (tuple(words), starts["main"], need, takes, gives, tuple(places))


def told_rows(linked, image):
    """The rows of the linked functions as rows_in tells them."""
    starts = {}
    addresses = [address for address, _ in rows_in(image[0])]
    at = 0
    for title, _, rows in linked[3]:
        starts[title] = at
        at += len(rows)
    found = []
    for title, _, rows in linked[3]:
        for row in rows:
            if row[0] in ("jump", "nought"):
                row = row[:-1] + (addresses[starts[title] + row[-1]],)
            elif row[0] == "call":
                row = ("call", addresses[starts[row[1]]])
            elif row[0] in ("div", "rem"):
                row = row[:4]
            found.append(row)
    return found


def one_function(*rows, need=16, takes=0, gives=0):
    return (need, takes, gives, (("main", 0, rows),))


class LoadingTest(unittest.TestCase):
    def test_example(self):
        self.assertEqual(load(LINKED), ((0, 8448, 61440, 6, 16400, 256, 0, 16657, 256), 0, 2, 1, 1, ((2, "main", 0),)))
        self.assertEqual(load(LINKED), IMAGE)

    def test_each_row(self):
        rows = (("beat",), ("tell", 15), ("keep", 3), ("fetch", 14), ("number", 11, 65535), ("move", 15, 1), ("swap", 2, 13),
                ("add", 1, 2, 3), ("sub", 4, 5, 6), ("mul", 7, 8, 9), ("div", 10, 11, 12, 70000), ("rem", 13, 14, 15, 0),
                ("less", 15, 15, 15), ("same", 0, 0, 15), ("call", "main", 4), ("back",))
        words = (0, 2 * 256 + 15 * 16, 3 * 256 + 3 * 16, 4 * 256 + 14 * 16, 4096 + 11 * 256, 65535, 0x2F10, 0x32D0, 0x4123, 0x5456,
                 0x6789, 0x7ABC, 0x8DEF, 0x9FFF, 0xA00F, 0xF000, 0, 256)
        self.assertEqual(load(one_function(*rows, takes=5, gives=6)), (
            words, 0, 16, 5, 6, ((11, "main", 70000), (12, "main", 0), (15, "main", 4))))

    def test_rows_in_each_row(self):
        words = (0, 2 * 256 + 15 * 16, 3 * 256 + 3 * 16, 4 * 256 + 14 * 16, 4096 + 11 * 256, 65535, 0x2F10, 0x32D0, 0x4123, 0x6789,
                 0x7ABC, 0x9FFF, 0xA00F, 0xF000, 7, 0xB000, 0xB00F, 0xC000, 3, 0xD905, 0xE700, 60000, 256)
        self.assertEqual(rows_in(words), (
            (0, ("beat",)), (1, ("tell", 15)), (2, ("keep", 3)), (3, ("fetch", 14)), (4, ("number", 11, 65535)), (6, ("move", 15, 1)),
            (7, ("swap", 2, 13)), (8, ("add", 1, 2, 3)), (9, ("mul", 7, 8, 9)), (10, ("div", 10, 11, 12)), (11, ("less", 15, 15, 15)),
            (12, ("same", 0, 0, 15)), (13, ("call", 7)), (15, ("jump", 7)), (16, ("jump", 23)), (17, ("jump", 3)),
            (19, ("nought", 9, 16)), (20, ("nought", 7, 60000)), (22, ("back",))))
        self.assertEqual(rows_in(()), ())

    def test_distances(self):
        # From -8 to 7 a jump is short.
        for many, words in ((6, (0xB00F,)), (7, (0xC000, 9))):
            rows = (("jump", many + 1),) + (("beat",),) * many + (("back",),)
            self.assertEqual(load(one_function(*rows))[0], words + (0,) * many + (256,))
        for many, words in ((8, (0xD300,)), (9, (0xE300, 0))):
            rows = (("beat",),) * many + (("nought", 3, 0), ("back",))
            self.assertEqual(load(one_function(*rows))[0], (0,) * many + words + (256,))
        self.assertEqual(load(one_function(("jump", 0)))[0], (0xB008,))

    def test_addresses_count_from_the_start_of_all(self):
        far = (("nought", 1, 9),) + (("beat",),) * 8 + (("back",),)
        linked = (2, 0, 0, (("a", 1, far), ("main", 0, far), ("z", 1, (("call", "main", 3), ("jump", 2), ("back",)))))
        image = load(linked)
        self.assertEqual(image[0], (0xE100, 10) + (0,) * 8 + (256,) + (0xE100, 21) + (0,) * 8 + (256,) + (0xF000, 11, 0xB009, 256))
        self.assertEqual(image[1:], (11, 2, 0, 0, ((22, "z", 3),)))

    def test_random_units(self):
        long_ones = 0
        for seed, units in enumerate(bound_units(60, seed=66)):
            one = bundled(units, PASSES[seed % 3])
            if linkoracles.need(sheets_of_pieces(one[1])) > 16:
                continue
            linked = link(one, 16)
            image = load(linked)
            self.assertTrue(same_kind(image, told_load(linked)))
            rows = rows_in(image[0])
            self.assertEqual([row for _, row in rows], told_rows(linked, image))
            long_ones += sum(word // 4096 in (12, 14) for word in [image[0][address] for address, _ in rows])
            for number in range(2):
                args = some_args(units, 3 * seed + number)
                for most in (0, 2, 60):
                    self.assertTrue(same_kind(run_image(image, args, most), run_linked(linked, args, most)))
        self.assertGreater(long_ones, 50)

    def test_rings(self):
        linked = link(((), (RING,)), 2)
        image = load(linked)
        self.assertEqual(image, told_load(linked))
        for word in range(20):
            self.assertEqual(run_image(image, (word,), 40), run_linked(linked, (word,), 40))
        for unit, args in ((CASES, (1, 2, 9)), (CASES, (0, 0, 9)), (ALONE, ())):
            linked = link(compile_unit(unit, ()), 16)
            self.assertEqual(run_image(load(linked), args, 40), run_linked(linked, args, 40))

    def test_by_name(self):
        self.assertEqual(load(linked=LINKED), IMAGE)
        self.assertEqual(rows_in(words=IMAGE[0])[:3], ((0, ("beat",)), (1, ("move", 1, 0)), (2, ("call", 6))))


if __name__ == "__main__":
    unittest.main()
