import random
import unittest

from linkneed.desk import desk
from linkneed.errors import Beyond, InvalidEvent, InvalidText, Missing, NothingToUndo, NotUsable
from linkneed.eventreadings import read_event
from linkneed.eventtexts import event_line
from linkneed.live import LiveBench
from tests.checks import refusal, unusable
from tests.samples import ALONE, CASES, MAIN, ODD_VALUES, TWICE
from tests.test_live import OTHER_TWICE, OTHER_USE, RandomTest, UNFIT

PUT_MAIN, PUT_TWICE = event_line(("put", MAIN)), event_line(("put", TWICE))
ROUND = ("a", (), (), (("main", (("n", "word"),), "word", (
    ("if", ("name", "n"), (("give", ("call", "main", (("sub", ("name", "n"), ("number", 1)),))),), ()), ("give", ("number", 3)))),))


class DeskTest(unittest.TestCase):
    def test_example(self):
        self.assertEqual(
            desk(("put unit a; function main gives word; take x word; give x; end", "run 3 7", "need", "undo 2", "drop b", "passes fold",
                  "hm")),
            ("done", "told gave 7 beats 1", "1", "only 1", "refused unknown", "done", "unread 0"))

    def test_no_lines(self):
        self.assertEqual(desk(()), ())

    def test_changes(self):
        self.assertEqual(desk((PUT_MAIN, PUT_TWICE, "need", "passes fold", "need", event_line(("put", ALONE)), "drop b", "units")), (
            "done", "done", "2", "done main piece", "3", "done main piece twice gone", "done", "units a"))

    def test_units(self):
        self.assertEqual(desk(("units", PUT_MAIN, "units", PUT_TWICE, "units", "undo 2", "units")),
                         ("units", "done", "units b", "done", "units a b", "undone 2", "units"))

    def test_needs(self):
        self.assertEqual(desk(("need", PUT_MAIN, "need", PUT_TWICE, "need")),
                         ("missing main", "done", "missing twice", "done", "2"))

    def test_tally(self):
        self.assertEqual(desk(("tally", PUT_MAIN, "drop z", "drop Z", PUT_TWICE, "undo 1", "undo 5", "run 3", "tally")), (
            "tally 0 0 0 0", "done", "refused unknown", "unread 0", "done", "undone 1", "only 1", "missing twice", "tally 2 1 1 2"))

    def test_undo(self):
        self.assertEqual(desk(("undo 0", "undo 1", PUT_MAIN, "undo 1", "undo 1", "undo " + "9" * 60, "undo 1" + "0" * 60, "undo 00",
                               "undo 01", "undo", "undo ", "undo -1", "undo 1 1", "undo  1", " undo 1", "undo 1 ", "undo x")),
                         ("undone 0", "only 0", "done", "undone 1", "only 0", "only 0") + ("unread 0",) * 11)

    def test_runs(self):
        self.assertEqual(desk(("run 9", PUT_MAIN, "run 9 5", PUT_TWICE, "run 9 5", "run 1 5", "run 0 5", "run 9", "run 9 5 5", "run 9 65536",
                               "run 9 65535", "run 9 " + "7" * 60, "registers 1", "run 9 5", "run 9")), (
            "missing main", "done", "missing twice", "done", "told gave 15 beats 2", "told on beats 1", "told on beats 0", "unusable args",
            "unusable args", "unusable args", "told gave 65533 beats 2", "unusable args", "done", "beyond 2", "beyond 2"))

    def test_faults_and_words_told(self):
        self.assertEqual(desk((event_line(("put", CASES)), "run 50 1 2 9", "run 3 1 2 9", "run 9 0 0 9", "run 9 0 1 9")), (
            "done", "told 2 1 fault nought main 0 beats 4", "told 2 1 on beats 3", "told gave 7 beats 1", "told gave 7 beats 1"))
        self.assertEqual(desk((event_line(("put", ROUND)), "run 40 20", "run 40 15", "run " + "9" * 60 + " 2")), (
            "done", "told fault deep main 0 beats 16", "told gave 3 beats 16", "told gave 3 beats 3"))
        pair = ("p", (("pair", (("both", ("word", "word")),)),), (), (("main", (), "pair", (
            ("tell", ("number", 8)), ("give", ("case", "pair", "both", (("number", 4), ("number", 5)))))),))
        nothing = ("p", (("no", (("one", ()),)),), (), (("main", (), "no", ()),))
        self.assertEqual(desk((event_line(("put", pair)), "run 1", event_line(("put", nothing)), "run 1")),
                         ("done", "told 8 gave 4 5 beats 1", "done main piece", "told gave beats 1"))

    def test_numbers(self):
        self.assertEqual(desk((PUT_MAIN, PUT_TWICE, "run 9 05", "run 09 5", "run 9  5", "run", "run ", "run x", "run 9 x", "run 9 -1", "run +9 5",
                               "run 9 5 ", " run 9 5", "runs 9 5", "run 9 1" + "0" * 60, "run 1" + "0" * 60 + " 5", "need ", "need 1",
                               "units ", "tally 0", "Need")), ("done", "done") + ("unread 0",) * 19)

    def test_events(self):
        self.assertEqual(desk((PUT_MAIN, PUT_TWICE, event_line(("put", OTHER_TWICE)), event_line(("put", OTHER_USE)),
                               event_line(("put", UNFIT)), "drop twice", "put unit a; functio", "put ", "put unit a\n", "registers 17",
                               "passes", "registers 16", "drop a")), (
            "done", "done", "refused twice", "refused unlike", "refused unfit", "refused unknown", "unread 1", "unread 0", "unread 0",
            "unread 0", "done", "done", "done"))

    def test_refusals(self):
        for thing in [thing for thing in ODD_VALUES if thing not in ((), ("beat",))] + [["need"], ("need", None), "need", ("need", 5), (("need",),)]:
            self.assertEqual(refusal(desk, thing), unusable("lines"))

    def test_by_name(self):
        self.assertEqual(desk(lines=("units",)), ("units",))

    def test_random_lines(self):
        makes = RandomTest()
        for seed in range(10):
            source = random.Random(seed)
            lines = [PUT_MAIN, PUT_TWICE] if seed % 2 else []
            for _ in range(40):
                pick = source.random()
                if pick < 0.5:
                    lines.append(event_line(makes.event(source)))
                else:
                    lines.append(source.choice(("need", "units", "tally", "undo 1", "undo 2", "run 9 5", "run 20 1 2 9", "run 3", "drop q",
                                                "passes x", PUT_MAIN, PUT_TWICE)))
            self.assertEqual(desk(tuple(lines)), tuple(self.told(lines)))

    def told(self, lines):
        bench = LiveBench(16, ())
        for line in lines:
            words = line.split()
            try:
                if line == "need":
                    yield f"{bench.present_need()}"
                elif line == "units":
                    yield " ".join(["units"] + [unit[0] for unit in bench])
                elif line == "tally":
                    yield "tally {} {} {} {}".format(*bench.tally, bench.compiled)
                elif words[0] == "undo":
                    bench.undo(int(words[1]))
                    yield f"undone {words[1]}"
                elif words[0] == "run":
                    told, end, beats = bench.run(tuple(map(int, words[2:])), int(words[1]))
                    end = end[:1] + end[1] if end[0] == "gave" else end
                    yield " ".join(map(str, ("told",) + told + end + ("beats", beats)))
                else:
                    changes = bench.go(read_event(line))
                    yield " ".join(("done",) + sum(changes or (), ()))
            except Missing as error:
                yield f"missing {error.title}"
            except Beyond as error:
                yield f"beyond {error.need}"
            except NotUsable as error:
                yield f"unusable {error.word}"
            except NothingToUndo as error:
                yield f"only {error.steps}"
            except InvalidText as error:
                yield f"unread {error.line}"
            except InvalidEvent as error:
                yield f"refused {error.reason}"


if __name__ == "__main__":
    unittest.main()
