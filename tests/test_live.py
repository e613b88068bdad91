import copy
import random
import unittest

from linkneed.basing import need_of
from linkneed.bundling import bundle
from linkneed.changes import changes_between
from linkneed.compiling import compile_unit
from linkneed.errors import InvalidEvent, LinkError, Missing, NeedError
from linkneed.linking import link
from linkneed.live import LiveBench
from linkneed.liveevents import is_log
from linkneed.rowruns import run_linked
from tests.checks import refusal, same_kind, unusable
from tests.samples import ALONE, CASES, MAIN, ODD_VALUES, PAIRS, TWICE
from tests.test_linking import sheets_of_pieces

UNFIT = ("a", (), (), (("f", (), "word", (("give", ("name", "x")),)),))
# Has the function twice, too, and one that uses it otherwise.
OTHER_TWICE = ("c", (), (), TWICE[3])
OTHER_USE = ("d", (), (("twice", ("word", "word"), "word"),), ())
THIRD = ("e", (), (("twice", ("word",), "word"),), (("third", (("x", "word"),), "word", (
    ("give", ("call", "twice", (("number", 3),))),)),))


def refused(event, reason):
    return ("InvalidEvent", {"event": event, "reason": reason})


def filled():
    bench = LiveBench(2, ())
    bench.go(("put", MAIN))
    bench.go(("put", TWICE))
    return bench


class LiveTest(unittest.TestCase):
    def test_example(self):
        bench = LiveBench(2, ())
        self.assertIsNone(bench.go(("put", MAIN)))
        self.assertIsNone(bench.go(("put", TWICE)))
        self.assertEqual(bench.run((5,), 9), ((), ("gave", (15,)), 2))
        self.assertEqual(bench.go(("passes", ("fold",))), (("main", "piece"),))
        self.assertEqual(bench.present_need(), 3)
        self.assertEqual(refusal(bench.linked_now), ("Beyond", {"need": 3}))
        self.assertEqual(bench.tried(("passes", ("fold", "drop"))), (("main", "piece"),))
        self.assertEqual(bench.undo(), (("passes", ("fold",)),))
        self.assertEqual([bench.present_need(), bench.tally, bench.compiled], [2, (3, 0, 1), 6])

    def test_new_benches(self):
        bench = LiveBench(names=("fold", "drop"), registers=7)
        self.assertEqual([bench.units_now, bench.passes_now, bench.registers_now], [(), ("fold", "drop"), 7])
        self.assertEqual([bench.log, bench.tally, bench.compiled], [(7, ("fold", "drop"), ()), (0, 0, 0), 0])
        self.assertEqual([len(bench), list(bench), "a" in bench, bench.object_now()], [0, [], False, ((), ())])
        self.assertEqual(refusal(bench.linked_now), ("Missing", {"title": "main"}))
        self.assertEqual(refusal(bench.present_need), ("Missing", {"title": "main"}))
        self.assertEqual(refusal(bench.run, None, None), ("Missing", {"title": "main"}))

    def test_sizes_and_names(self):
        for thing in [thing for thing in ODD_VALUES if thing != 1 or thing is True] + [0, 17]:
            self.assertEqual(refusal(LiveBench, thing, None), unusable("registers"))
        for thing in [thing for thing in ODD_VALUES if thing != ()] + [["fold"], "fold", ("folds",), ("fold", None)]:
            self.assertEqual(refusal(LiveBench, 1, thing), unusable("names"))
        self.assertEqual(LiveBench(16, ("lift",) * 6).passes_now, ("lift",) * 6)

    def test_units_ascend(self):
        bench = LiveBench(16, ())
        for unit in (PAIRS, MAIN, ALONE, TWICE):
            bench.go(("put", unit))
        self.assertEqual(bench.units_now, (TWICE, ALONE, PAIRS))
        self.assertEqual([len(bench), list(bench)], [3, [TWICE, ALONE, PAIRS]])
        self.assertEqual(["b" in bench, "twice" in bench, None in bench, ["b"] in bench, ALONE in bench], [True] + [False] * 4)
        self.assertEqual(bench.unit_of("b"), ALONE)
        for name in ODD_VALUES + ("main", ["b"], "z"):
            self.assertEqual(refusal(bench.unit_of, name), ("Missing", {"title": name}))
        self.assertEqual(bench.go(("drop", "b")), None)
        self.assertEqual(bench.units_now, (TWICE, PAIRS))

    def test_what_go_returns(self):
        bench = filled()
        self.assertEqual(bench.go(("put", TWICE)), ())
        self.assertEqual(bench.go(("registers", 9)), ())
        self.assertEqual(bench.go(("passes", ())), ())
        self.assertEqual(bench.registers_now, 9)
        self.assertEqual(bench.go(("put", ALONE)), (("main", "piece"), ("twice", "gone")))
        self.assertIsNone(bench.go(("drop", "b")))
        self.assertIsNone(bench.go(("registers", 9)))
        self.assertIsNone(bench.go(("put", MAIN)))
        self.assertEqual(bench.tally, (9, 0, 0))

    def test_reasons(self):
        bench = filled()
        bench.go(("passes", ("drop",)))
        before = (bench.units_now, bench.log, bench.compiled)
        cases = [(thing, "form") for thing in ODD_VALUES + (("drop",), ("put", None), ("registers", 17), ["drop", "a"],
                                                            ("passes", ["fold"]), ("undo", 1))]
        cases += [(("put", UNFIT), "unfit"), (("drop", "twice"), "unknown"), (("drop", "z"), "unknown")]
        for event, reason in cases:
            self.assertEqual(refusal(bench.go, event), refused(event, reason))
            self.assertEqual(refusal(bench.tried, event), refused(event, reason))
        self.assertEqual((bench.units_now, bench.log, bench.compiled), before)
        self.assertEqual(bench.tally, (3, 2 * len(cases), 0))
        for event, reason, more in ((("put", OTHER_TWICE), "twice", 1), (("put", OTHER_USE), "unlike", 0)):
            self.assertEqual(refusal(bench.go, event), refused(event, reason))
            self.assertEqual(refusal(bench.tried, event), refused(event, reason))
            self.assertEqual((bench.units_now, bench.log), before[:2])
        self.assertEqual(bench.compiled, before[2] + 1)

    def test_twice_comes_ahead_of_unlike(self):
        bench = filled()
        event = ("put", ("c", (), (("zz", (), "word"),), (("main", (), "word", ()), ("twice", (), "word", ()))))
        self.assertEqual(refusal(bench.go, event), refused(event, "twice"))
        self.assertEqual(refusal(bench.go, ("put", ("a", (), (), (("twice", (), "word", ()),)))),
                         refused(("put", ("a", (), (), (("twice", (), "word", ()),))), "unlike"))

    def test_the_very_event(self):
        event = ["put", MAIN]
        try:
            LiveBench(1, ()).go(event)
        except InvalidEvent as error:
            self.assertIs(error.event, event)

    def test_tried_changes_nothing_but_counts(self):
        bench = filled()
        before = (bench.log, bench.units_now, bench.object_now())
        self.assertEqual(bench.tried(("put", ALONE)), (("main", "piece"), ("twice", "gone")))
        self.assertIsNone(bench.tried(("drop", "a")))
        self.assertEqual(bench.tried(("registers", 4)), ())
        self.assertEqual((bench.log, bench.units_now, bench.object_now()), before)
        self.assertEqual([bench.tally, bench.compiled], [(2, 0, 0), 3])

    def test_undo(self):
        bench = filled()
        events = (("passes", ("drop",)), ("registers", 5), ("put", ALONE), ("drop", "a"))
        copies = [copy.deepcopy(bench)]
        for event in events:
            bench.go(event)
            copies.append(copy.deepcopy(bench))
        self.assertEqual(bench.undo(0), ())
        self.assertEqual(bench.undo(many=3), events[1:])
        self.assertEqual(bench, copies[1])
        self.assertEqual(bench.tally, (6, 0, 3))
        self.assertEqual(refusal(bench.undo, 4), ("NothingToUndo", {"steps": 3}))
        self.assertEqual(bench.undo(3), (("put", MAIN), ("put", TWICE), events[0]))
        self.assertEqual(bench, LiveBench(2, ()))
        self.assertEqual(refusal(bench.undo), ("NothingToUndo", {"steps": 0}))
        self.assertEqual(refusal(bench.undo, 10 ** 30), ("NothingToUndo", {"steps": 0}))
        self.assertEqual(bench.tally, (6, 0, 6))
        for thing in [thing for thing in ODD_VALUES if thing != 0 and thing != 1 and thing != 10 ** 59] + [True, False]:
            self.assertEqual(refusal(bench.undo, thing), unusable("many"))

    def test_do_all(self):
        bench = LiveBench(2, ())
        self.assertEqual(bench.do_all(()), 0)
        self.assertEqual(bench.do_all((("put", MAIN), ("put", TWICE), ("registers", 3))), 3)
        self.assertEqual([bench.tally, bench.log[2]], [(3, 0, 0), (("put", MAIN), ("put", TWICE), ("registers", 3))])
        before = copy.deepcopy(bench)
        events = (("passes", ("fold",)), ("put", ALONE), ("drop", "z"), ("registers", 4))
        self.assertEqual(refusal(bench.do_all, events), refused(("drop", "z"), "unknown"))
        self.assertEqual([bench == before, bench.log == before.log, bench.tally], [True, True, (5, 1, 2)])
        self.assertEqual(bench.do_all(events, keep=True), 3)
        self.assertEqual([bench.tally, bench.log[2][3:]], [(8, 2, 2), events[:2] + events[3:]])
        self.assertEqual(bench.do_all((None, 5, ("drop", "a"), [1]), keep=True), 1)
        self.assertEqual(bench.tally, (9, 5, 2))
        self.assertEqual(bench.do_all(events=(("registers", 4),), keep=False), 1)

    def test_do_all_refusals(self):
        bench = filled()
        for thing in (None, [], [("drop", "a")], "drop", 0, True):
            self.assertEqual(refusal(bench.do_all, thing, keep=3), unusable("events"))
            if thing is not True:
                self.assertEqual(refusal(bench.do_all, (("drop", "z"),), keep=thing), unusable("keep"))
        self.assertEqual(refusal(bench.do_all, (), keep=1), unusable("keep"))
        self.assertRaises(TypeError, bench.do_all, (), True)
        self.assertEqual([bench.tally, len(bench)], [(2, 0, 0), 2])

    def test_what_is_compiled(self):
        bench = filled()
        self.assertEqual(bench.compiled, 2)
        for event, many in ((("registers", 3), 2), (("put", TWICE), 2), (("passes", ("fold",)), 4), (("passes", ()), 4),
                            (("drop", "a"), 4), (("put", TWICE), 4), (("put", CASES[:1] + CASES[1:2] + ((), ())), 4),
                            (("passes", ("fold",)), 4), (("put", THIRD), 5), (("passes", ("drop", "fold")), 8)):
            bench.go(event)
            self.assertEqual(bench.compiled, many)
        bench.undo(4)
        bench.object_now()
        bench.present_need()
        self.assertEqual(bench.compiled, 8)
        refusal(bench.go, ("put", OTHER_TWICE))
        self.assertEqual(bench.compiled, 9)

    def test_an_equal_unit_of_another_title_is_no_equal_unit(self):
        bench = filled()
        bench.go(("drop", "a"))
        bench.go(("put", OTHER_TWICE))
        self.assertEqual(bench.compiled, 3)

    def test_equality(self):
        one = filled()
        other = LiveBench(9, ("lift",))
        other.do_all((("registers", 2), ("put", TWICE), ("put", MAIN), ("passes", ())))
        self.assertTrue(one == other)
        self.assertFalse(one != other)
        for event in (("registers", 3), ("passes", ("fold",)), ("drop", "a"), ("put", ALONE)):
            other.go(event)
            self.assertFalse(one == other)
            other.undo()
        for thing in (None, 2, (), one.log, one.units_now):
            self.assertFalse(one == thing)

        class Heir(LiveBench):
            pass

        heir = Heir(2, ())
        heir.do_all(one.log[2])
        self.assertTrue(heir == one and one == heir)

    def test_run_refusals(self):
        bench = filled()
        self.assertEqual(refusal(bench.run, (1, 2), None), unusable("args"))
        self.assertEqual(refusal(bench.run, (1,), None), unusable("most"))
        self.assertEqual(bench.run(most=9, args=(5,)), ((), ("gave", (15,)), 2))
        bench.go(("registers", 1))
        self.assertEqual(refusal(bench.run, (1, 2), None), ("Beyond", {"need": 2}))
        bench.go(("drop", "a"))
        self.assertEqual(refusal(bench.run, (1, 2), None), ("Missing", {"title": "twice"}))
        self.assertEqual(refusal(bench.present_need), ("Missing", {"title": "twice"}))

    def test_events_stay_as_they_were(self):
        events = (["put", [1]], ("put", MAIN), {}.get("a"))
        before = copy.deepcopy(events)
        LiveBench(1, ()).do_all(events, keep=True)
        self.assertEqual(events, before)


class PlainBench:
    """A bench by the words of the document, everything made anew."""

    def __init__(self, size, names):
        self.states = [({}, names, size)]
        self.first = (size, names)
        self.events = []
        self.counts = [0, 0, 0]
        self.compiled = []

    def behind(self, event):
        units, names, size = self.states[-1]
        units = dict(units)
        word, thing = event
        if word == "put":
            if thing == UNFIT:
                raise InvalidEvent(event, "unfit")
            units[thing[0]] = thing
        elif word == "drop":
            if thing not in units:
                raise InvalidEvent(event, "unknown")
            del units[thing]
        elif word == "passes":
            names = thing
        else:
            size = thing
        for unit in units.values():
            if (unit, names) not in self.compiled:
                self.compiled.append((unit, names))
        try:
            bundle(tuple(compile_unit(unit, names) for unit in units.values()))
        except LinkError as error:
            raise InvalidEvent(event, type(error).__name__.lower())
        return (units, names, size)

    def whole(self, state):
        return bundle(tuple(compile_unit(unit, state[1]) for unit in state[0].values()))

    def changes(self, state):
        try:
            return changes_between(self.whole(self.states[-1]), self.whole(state))
        except Missing:
            return None

    def go(self, event, really=True):
        try:
            state = self.behind(event)
        except InvalidEvent:
            self.counts[1] += 1
            raise
        told = self.changes(state)
        if really:
            self.states.append(state)
            self.events.append(event)
            self.counts[0] += 1
        return told

    def undo(self, many):
        undone = tuple(self.events[len(self.events) - many:])
        self.events = self.events[:len(self.events) - many]
        self.states = self.states[:len(self.states) - many]
        self.counts[2] += many
        return undone


class RandomTest(unittest.TestCase):
    UNITS = (MAIN, TWICE, ALONE, UNFIT, OTHER_TWICE, OTHER_USE, THIRD, CASES, PAIRS)
    NAMES = ((), ("fold",), ("fold", "drop"), ("lift", "straighten"))

    def event(self, source):
        pick = source.random()
        if pick < 0.6:
            return ("put", source.choice(self.UNITS + (MAIN, TWICE)))
        if pick < 0.75:
            return ("drop", source.choice("abcde"))
        if pick < 0.9:
            return ("passes", source.choice(self.NAMES))
        return ("registers", source.randrange(1, 17))

    def test_against_a_plain_bench(self):
        for seed in range(12):
            source = random.Random(seed)
            size, names = source.randrange(1, 17), source.choice(self.NAMES)
            bench, plain = LiveBench(size, names), PlainBench(size, names)
            for _ in range(30):
                event = self.event(source)
                pick = source.random()
                if pick < 0.15 and plain.events:
                    many = source.randrange(len(plain.events) // 2 + 2) % (len(plain.events) + 1)
                    self.assertEqual(bench.undo(many), plain.undo(many))
                    continue
                really = pick < 0.8
                try:
                    told = plain.go(event, really)
                except NeedError as error:
                    self.assertEqual(refusal(bench.go if really else bench.tried, event), refused(event, error.reason))
                else:
                    self.assertTrue(same_kind((bench.go if really else bench.tried)(event), told))
                self.check(bench, plain)

    def check(self, bench, plain):
        units, names, size = plain.states[-1]
        ordered = tuple(sorted(units.values(), key=lambda unit: unit[0]))
        self.assertTrue(same_kind([bench.units_now, bench.passes_now, bench.registers_now], [ordered, names, size]))
        self.assertTrue(same_kind(bench.log, plain.first + (tuple(plain.events),)))
        self.assertTrue(is_log(bench.log))
        self.assertTrue(same_kind(bench.tally, tuple(plain.counts)))
        self.assertEqual(bench.compiled, sum(len(unit[3]) for unit, _ in plain.compiled))
        whole = plain.whole(plain.states[-1])
        self.assertEqual(bench.object_now(), whole)
        self.assertEqual(bench, self.fresh(ordered, names, size))
        try:
            linked = link(whole, size)
        except LinkError as error:
            self.assertEqual(refusal(bench.linked_now), refusal(link, whole, size))
            if isinstance(error, Missing):
                self.assertEqual(refusal(bench.present_need), refusal(link, whole, size))
                return
        else:
            self.assertEqual(bench.linked_now(), linked)
            args = (3,) * linked[1]
            self.assertEqual(bench.run(args, 9), run_linked(linked, args, 9))
        self.assertEqual(bench.present_need(), need_of(sheets_of_pieces(whole[1])))

    def fresh(self, units, names, size):
        bench = LiveBench(size, names)
        for unit in units[::-1]:
            bench.go(("put", unit))
        return bench


if __name__ == "__main__":
    unittest.main()
