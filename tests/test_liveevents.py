import unittest

from linkneed.liveevents import is_event, is_log
from tests.samples import CASES, MAIN, ODD_VALUES, PAIRS, TWICE

GOOD = (
    ("put", TWICE), ("put", MAIN), ("put", PAIRS), ("put", CASES), ("put", ("u", (), (), ())),
    ("put", ("u", (), (), (("f", (), "gone", (("tell", ("name", "lost")),)),))), ("drop", "a"), ("drop", "abcdefghijkl"),
    ("passes", ()), ("passes", ("fold",)), ("passes", ("lift", "straighten", "drop", "fold", "fold", "fold", "fold")),
    ("registers", 1), ("registers", 16))
BAD = (
    ("put", "a"), ("put", ("unit", (), (), ())), ("put", list(TWICE)), ("put", TWICE, TWICE), ("put",), ["put", TWICE],
    ("put", None), ("drop", "unit"), ("drop", ""), ("drop", "A"), ("drop", TWICE), ("drop", ("a",)), ("drop", 1), ("drop",),
    ("drop", "a", "b"), ("passes", ["fold"]), ("passes", "fold"), ("passes", ("folds",)), ("passes", ("fold", None)),
    ("passes", (("fold",),)), ("passes", ("fold", ["drop"])), ("passes",), ("passes", "fold", "drop"), ("registers", 0),
    ("registers", 17), ("registers", True), ("registers", -1), ("registers", "4"), ("registers", (4,)), ("registers", None),
    ("registers",), ("registers", 1, 2), ("undo", 1), (None, 1), (["put"], TWICE), ((), ()), ("puts", TWICE))


class LiveEventsTest(unittest.TestCase):
    def test_events(self):
        for thing in GOOD:
            self.assertIs(is_event(thing), True, thing)
        for thing in BAD + ODD_VALUES:
            self.assertIs(is_event(thing), False, thing)

    def test_logs(self):
        for size in (1, 2, 16):
            for names in ((), ("fold",), ("drop", "drop")):
                self.assertIs(is_log((size, names, ())), True)
                self.assertIs(is_log((size, names, GOOD)), True)
        for event in GOOD:
            self.assertIs(is_log((3, (), (event,))), True)
            self.assertIs(is_log((3, (), event)), False)

    def test_wrong_logs(self):
        for event in BAD + ODD_VALUES:
            self.assertIs(is_log((3, (), (event,))), False, event)
            self.assertIs(is_log((3, (), GOOD + (event,))), False, event)
        for size in (0, 17, True, -1, None, "3", (3,)):
            self.assertIs(is_log((size, (), ())), False)
        for names in ([], ["fold"], "fold", ("lifted",), (None,), None, (["fold"],)):
            self.assertIs(is_log((3, names, ())), False)
        for thing in ((3, (), []), (3, ()), (3, (), (), ()), [3, (), ()], (3, (), None), ((), 3, ()), (3, (), GOOD[-1])):
            self.assertIs(is_log(thing), False)
        for thing in ODD_VALUES:
            self.assertIs(is_log(thing), False)

    def test_by_name(self):
        self.assertEqual([is_event(thing=("drop", "a")), is_log(thing=(1, (), ()))], [True, True])


if __name__ == "__main__":
    unittest.main()
