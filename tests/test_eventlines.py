import unittest

from linkneed.eventreadings import read_event
from linkneed.eventtexts import event_line
from linkneed.liveevents import is_event
from linkneed.unitreadings import read_unit
from linkneed.unittexts import unit_text
from tests.checks import refusal, same_kind, unusable
from tests.samples import ALONE, CASES, DOWN, MAIN, ODD_VALUES, PAIRS, TWICE
from tests.test_live import UNFIT
from tests.unitsamples import bound_units

NAMES = ("fold", "drop", "straighten", "lift")
EVENTS = (
    (("drop", "a"), "drop a"), (("drop", "x1y2z3x1y2z3"), "drop x1y2z3x1y2z3"), (("passes", ()), "passes"),
    (("passes", ("fold",)), "passes fold"), (("passes", NAMES + ("fold", "fold")), "passes fold drop straighten lift fold fold"),
    (("registers", 1), "registers 1"), (("registers", 16), "registers 16"), (("registers", 9), "registers 9"),
    (("put", ("a", (), (), ())), "put unit a"),
    (("put", TWICE), "put unit a; function twice gives word; take x word; give (add x x); end"))


def invalid(line):
    return ("InvalidText", {"line": line})


class EventLineTest(unittest.TestCase):
    def test_examples(self):
        self.assertEqual([event_line(("put", TWICE)), event_line(("passes", ()))],
                         ["put unit a; function twice gives word; take x word; give (add x x); end", "passes"])

    def test_lines(self):
        for event, line in EVENTS:
            self.assertEqual(event_line(event), line)

    def test_units(self):
        for unit in (MAIN, CASES, DOWN, PAIRS, ALONE, UNFIT):
            self.assertEqual(event_line(("put", unit)), "put " + "; ".join(unit_text(unit).split("\n")))

    def test_refusals(self):
        for thing in ODD_VALUES + (("drop",), ("put", None), ("registers", 17), ["drop", "a"], ("passes", ["fold"]), ("undo", 1),
                                   ("registers", True), "passes", TWICE):
            self.assertFalse(is_event(thing))
            self.assertEqual(refusal(event_line, thing), unusable("event"))

    def test_by_name(self):
        self.assertEqual(event_line(event=("drop", "b")), "drop b")


class ReadEventTest(unittest.TestCase):
    def test_examples(self):
        self.assertEqual(read_event("registers 4"), ("registers", 4))
        self.assertEqual(refusal(read_event, "put unit a; functio"), invalid(1))

    def test_lines(self):
        for event, line in EVENTS:
            self.assertTrue(same_kind(read_event(line), event))

    def test_random_units(self):
        for units in bound_units(40, seed=68):
            for unit in units:
                line = event_line(("put", unit))
                self.assertNotIn("\n", line)
                self.assertTrue(same_kind(read_event(line), ("put", unit)))

    def test_no_lines(self):
        for line in ("", " ", "drop", "drop ", "drop  a", " drop a", "drop a ", "drop a b", "drop A", "drop unit", "drop 1a", "drop a\n",
                     "drop abcdefghijklm", "passes ", "passes  fold", "passes fold ", "passes folded", "passes fold\n", "passes\n",
                     "passes fold drop; lift", "registers", "registers ", "registers 0", "registers 17", "registers 01", "registers 1 ",
                     "registers 1 2", "registers x", "registers -1", "registers 1\n", "Registers 1", "put", "puts unit a", "undo 1",
                     "put\nunit a", "put unit a\n", "put unit a\nshape", "\n", "unit a", "put unit\na", "hm", "drop\na"):
            self.assertEqual(refusal(read_event, line), invalid(0), line)

    def test_lines_that_begin_with_put(self):
        for text in ("", " ", "unit", "unit A", "unit a; ", "unit a;", "unit a; ;", "unit a;  end", "unit a; shape s; end", "unit a;function",
                     "unit a; function f gives word", "unit a; function f gives word; give (add 1 2; end", "unit  a",
                     "unit a; function f gives word; if 1; else; end", "unit a; ; end", "; unit a"):
            expected = refusal(read_unit, text.replace("; ", "\n"))
            self.assertEqual(expected[0], "InvalidText")
            self.assertEqual(refusal(read_event, "put " + text), expected)
        self.assertEqual(refusal(read_event, "put unit a; shape s; end"), invalid(2))
        self.assertEqual(refusal(read_event, "put unit a; function f gives word"), invalid(2))
        self.assertEqual(refusal(read_event, "put "), invalid(0))

    def test_lines_cut_short(self):
        line = event_line(("put", CASES))
        whole = [line.index(" c;") + 2, line.index(" function") - 1, len(line)]
        for at in range(4, len(line) + 1):
            text = line[4:at].replace("; ", "\n")
            if at in whole:
                self.assertEqual(read_event(line[:at]), ("put", read_unit(text)))
            else:
                self.assertEqual(refusal(read_event, line[:at]), refusal(read_unit, text))

    def test_refusals(self):
        for thing in [thing for thing in ODD_VALUES if not isinstance(thing, str)] + [("drop a",), ["drop a"]]:
            self.assertEqual(refusal(read_event, thing), unusable("line"))

    def test_by_name(self):
        self.assertEqual(read_event(line="drop b"), ("drop", "b"))


if __name__ == "__main__":
    unittest.main()
