import unittest

from linkneed.programs import lets_program
from tests.checks import refusal, unusable
from tests.samples import BEAT, FAR, LOOP, ODD_VALUES, ONE, PICK, TWO


def titled(title, graph):
    return (title,) + graph[1:]


def calling(title, *calls):
    """A graph that takes nothing and makes these calls: (title, how many are handed, how many come back)."""
    steps = [((0,), "number", (), 1)]
    fresh = 1
    for called, handed, many in calls:
        steps.append((tuple(range(fresh, fresh + many)), "call", (0,) * handed, (called, 0)))
        fresh += many
    return (title, 0, (((), tuple(steps), ("give", ())),))


class ProgramsTest(unittest.TestCase):
    def test_programs(self):
        self.assertEqual([lets_program((ONE, TWO)), lets_program((TWO, ONE)), lets_program((titled("main", LOOP),))],
                         [2, 2, 1])
        self.assertEqual(lets_program((calling("main", ("main", 0, 0), ("pick", 1, 1)), PICK, LOOP)), 3)

    def test_no_tuple_of_settled_graphs(self):
        loose = ("main", 1, (((0,), (((0,), "copy", (0,), 0),), ("give", (0,))),))
        for thing in [thing for thing in ODD_VALUES if thing != ()] + [[ONE, TWO], TWO, (TWO, loose), (TWO, None), loose]:
            self.assertEqual(refusal(lets_program, thing), unusable("thing"))

    def test_twice(self):
        self.assertEqual(refusal(lets_program, (ONE, LOOP, PICK, LOOP, ONE)), ("Twice", {"title": "sum"}))
        self.assertEqual(refusal(lets_program, (TWO, TWO)), ("Twice", {"title": "main"}))

    def test_missing_and_unlike(self):
        self.assertEqual(refusal(lets_program, (TWO,)), ("Missing", {"title": "twice"}))
        self.assertEqual(refusal(lets_program, (FAR, ONE)), ("Missing", {"title": "main"}))
        self.assertEqual(refusal(lets_program, (calling("main", ("twice", 2, 1)), ONE)), ("Unlike", {"title": "twice"}))
        self.assertEqual(refusal(lets_program, (calling("main", ("twice", 0, 1)), ONE)), ("Unlike", {"title": "twice"}))
        self.assertEqual(refusal(lets_program, (calling("main", ("twice", 1, 0)), ONE)), ("Unlike", {"title": "twice"}))
        self.assertEqual(refusal(lets_program, (calling("main", ("twice", 1, 2)), ONE)), ("Unlike", {"title": "twice"}))
        self.assertEqual(lets_program((calling("main", ("twice", 1, 1)), ONE)), 2)

    def test_calls_in_order(self):
        first = calling("a", ("twice", 1, 1), ("gone", 0, 0), ("twice", 0, 0))
        second = calling("b", ("twice", 0, 0), ("gone", 0, 0))
        self.assertEqual(refusal(lets_program, (first, second, ONE)), ("Missing", {"title": "gone"}))
        self.assertEqual(refusal(lets_program, (second, first, ONE)), ("Unlike", {"title": "twice"}))

    def test_blocks_in_order(self):
        graph = ("main", 0, (((0,), (BEAT,), ("by", 0, 2, 1)), ((), (((), "call", (), ("x", 0)),), ("give", ())),
                             ((), (((), "call", (), ("y", 0)),), ("give", ()))))
        self.assertEqual(refusal(lets_program, (graph,)), ("Missing", {"title": "x"}))

    def test_what_is_said_first(self):
        gone = calling("a", ("gone", 0, 0))
        self.assertEqual(refusal(lets_program, (gone, ONE, ONE)), ("Twice", {"title": "twice"}))
        self.assertEqual(refusal(lets_program, (gone,)), ("Missing", {"title": "gone"}))
        self.assertEqual(refusal(lets_program, ()), ("Missing", {"title": "main"}))
        self.assertEqual(refusal(lets_program, (ONE, ONE, None)), unusable("thing"))

    def test_by_name(self):
        self.assertEqual(lets_program(thing=(ONE, TWO)), 2)


if __name__ == "__main__":
    unittest.main()
