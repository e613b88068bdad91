import copy
import random
import unittest

from linkneed.errors import InvalidEvent, LinkError, NeedError
from linkneed.firmlive import FirmBench
from linkneed.linking import link
from linkneed.live import LiveBench
from linkneed.replaying import replayed
from tests.checks import refusal, same_kind, unusable
from tests.samples import ALONE, MAIN, ODD_VALUES, TWICE
from tests.test_live import OTHER_TWICE, OTHER_USE, PlainBench, RandomTest, UNFIT, refused


def firm():
    bench = FirmBench(2, ())
    bench.do_all((("put", MAIN), ("put", TWICE)))
    return bench


class FirmTest(unittest.TestCase):
    def test_example(self):
        bench = FirmBench(2, ())
        self.assertEqual(bench.do_all((("put", MAIN), ("drop", "z"), ("put", TWICE)), keep=True), 2)
        self.assertEqual(refusal(bench.go, ("registers", 1)), refused(("registers", 1), "beyond"))

    def test_all_is_let_until_the_units_link(self):
        bench = FirmBench(1, ())
        for event in (("put", TWICE), ("put", MAIN), ("registers", 1), ("drop", "a"), ("passes", ("fold",)), ("put", TWICE)):
            bench.go(event)
        # The need is 3 now, still above the size.
        for event in (("passes", ()), ("drop", "a"), ("put", TWICE), ("registers", 2)):
            bench.go(event)
        self.assertEqual(bench.linked_now()[0], 2)
        for event, reason in ((("registers", 1), "beyond"), (("passes", ("fold",)), "beyond"), (("drop", "a"), "missing"),
                              (("drop", "b"), "missing")):
            self.assertEqual(refusal(bench.go, event), refused(event, reason))
            self.assertEqual(refusal(bench.tried, event), refused(event, reason))
        self.assertEqual(bench.go(("put", ALONE)), (("main", "piece"), ("twice", "gone")))
        self.assertEqual(bench.go(("drop", "a")), ())
        self.assertEqual(bench.go(("registers", 1)), ())
        self.assertEqual(bench.tally, (13, 8, 0))

    def test_refused_events_change_nothing(self):
        bench = firm()
        before = (bench.log, bench.units_now, bench.passes_now, bench.registers_now, bench.compiled)
        for event in (("registers", 1), ("drop", "a"), ("drop", "b")):
            self.assertEqual(refusal(bench.go, event)[0], "InvalidEvent")
        self.assertEqual((bench.log, bench.units_now, bench.passes_now, bench.registers_now, bench.compiled), before)
        # What is refused for its need was compiled.
        self.assertEqual(refusal(bench.tried, ("passes", ("fold",))), refused(("passes", ("fold",)), "beyond"))
        self.assertEqual([bench.compiled, bench.tally, bench.passes_now], [4, (2, 4, 0), ()])

    def test_other_reasons_come_first(self):
        bench = firm()
        for event, reason in ((None, "form"), (("registers", 17), "form"), (("put", UNFIT), "unfit"), (("drop", "z"), "unknown"),
                              (("put", OTHER_TWICE), "twice"), (("put", OTHER_USE), "unlike"),
                              (("put", ("a", (), (), ())), "missing"), (("put", ("b", (), (), ())), "missing")):
            self.assertEqual(refusal(bench.go, event), refused(event, reason))
        both = ("put", ("b", (), (("ghost", (), "word"),), MAIN[3][:1] + (("twice", (), "word", ()),)))
        self.assertEqual(refusal(bench.go, both), refused(both, "unfit"))
        lacking = ("put", ("c", (), (("ghost", (), "word"),), (("twice", (), "word", ()),)))
        self.assertEqual(refusal(bench.go, lacking), refused(lacking, "twice"))

    def test_do_all(self):
        bench = firm()
        before = copy.deepcopy(bench)
        events = (("registers", 5), ("passes", ("fold",)), ("registers", 2), ("registers", 3))
        self.assertEqual(refusal(bench.do_all, events), refused(("registers", 2), "beyond"))
        self.assertEqual([bench == before, bench.log == before.log, bench.tally], [True, True, (4, 1, 2)])
        self.assertEqual(bench.do_all(events, keep=True), 3)
        self.assertEqual([bench.registers_now, bench.tally], [3, (7, 2, 2)])

    def test_undo_is_no_event(self):
        bench = firm()
        self.assertEqual(bench.undo(), (("put", TWICE),))
        self.assertEqual(refusal(bench.linked_now), ("Missing", {"title": "twice"}))
        self.assertIsNone(bench.go(("registers", 1)))
        self.assertEqual(bench.undo(many=2), (("put", MAIN), ("registers", 1)))
        self.assertEqual(refusal(bench.undo), ("NothingToUndo", {"steps": 0}))

    def test_as_a_live_bench(self):
        bench = firm()
        live = LiveBench(2, ())
        live.do_all(bench.log[2])
        self.assertIsInstance(bench, LiveBench)
        self.assertTrue(bench == live and live == bench)
        self.assertEqual([bench.run((5,), 9), len(bench), list(bench), "a" in bench, bench.present_need()],
                         [((), ("gave", (15,)), 2), 2, [TWICE, MAIN], True, 2])
        self.assertEqual(replayed(bench.log), bench)
        self.assertIs(type(replayed(bench.log)), LiveBench)
        self.assertEqual(bench.unit_of("a"), TWICE)

    def test_refusals(self):
        for thing in [thing for thing in ODD_VALUES if thing != 1 or thing is True] + [0, 17]:
            self.assertEqual(refusal(FirmBench, thing, None), unusable("registers"))
        self.assertEqual(refusal(FirmBench, 1, ["fold"]), unusable("names"))
        self.assertEqual(FirmBench(names=("lift",), registers=4).log, (4, ("lift",), ()))
        self.assertEqual(refusal(firm().do_all, [], keep=3), unusable("events"))


class PlainFirmBench(PlainBench):
    """A firm bench by the words of the document."""

    def behind(self, event):
        state = super().behind(event)
        units, names, size = self.states[-1]
        try:
            link(self.whole(self.states[-1]), size)
        except LinkError:
            return state
        try:
            link(self.whole(state), state[2])
        except LinkError as error:
            raise InvalidEvent(event, type(error).__name__.lower())
        return state


class RandomFirmTest(unittest.TestCase):
    def test_against_a_plain_bench(self):
        makes = RandomTest()
        reasons = set()
        for seed in range(14):
            source = random.Random(seed)
            size, names = source.randrange(1, 6), source.choice(RandomTest.NAMES)
            bench, plain = FirmBench(size, names), PlainFirmBench(size, names)
            for event in (("put", TWICE), ("put", MAIN)) if seed % 2 else ():
                bench.go(event), plain.go(event)
            for _ in range(25):
                event = makes.event(source)
                if event[0] == "registers":
                    event = ("registers", source.randrange(1, 5))
                pick = source.random()
                if pick < 0.1 and plain.events:
                    many = source.randrange(len(plain.events) // 2 + 1)
                    self.assertEqual(bench.undo(many), plain.undo(many))
                    continue
                really = pick < 0.8
                try:
                    told = plain.go(event, really)
                except NeedError as error:
                    reasons.add(error.reason)
                    self.assertEqual(refusal(bench.go if really else bench.tried, event), refused(event, error.reason))
                else:
                    self.assertTrue(same_kind((bench.go if really else bench.tried)(event), told))
                self.assertEqual([bench.log[2], bench.tally], [tuple(plain.events), tuple(plain.counts)])
                self.assertEqual(bench.compiled, sum(len(unit[3]) for unit, _ in plain.compiled))
                units, names, size = plain.states[-1]
                self.assertEqual([sorted(units.values()), names, size], [list(bench), bench.passes_now, bench.registers_now])
        self.assertEqual(reasons, {"unfit", "unknown", "twice", "unlike", "missing", "beyond"})


if __name__ == "__main__":
    unittest.main()
