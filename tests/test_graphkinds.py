import unittest

from linkneed.graphkinds import is_graph, is_loose, is_settled
from tests import oracles
from tests.samples import BEAT, FAR, LOOP, ODD_VALUES, ONE, PAIR, PICK, SIX, TWO, settled_graphs

GIVE = ((), (), ("give", ()))
GOOD_STEPS = (
    ((3,), "number", (), 65535), ((3,), "copy", (0,), 0), ((3,), "add", (0, 1), 0), ((3,), "less", (0, 0), 0),
    ((3,), "div", (0, 1), 77777), ((3,), "rem", (0, 1), 0), ((), "call", (), ("f", 0)), ((4, 3), "call", (0, 0), ("f", 9)),
    ((), "tell", (0,), 0), BEAT, ((10 ** 30,), "same", (0, 1), 0))
BAD_STEPS = (
    ((3,), "number", (), 65536), ((3,), "number", (), True), ((3,), "number", (0,), 1), ((3, 4), "number", (), 1),
    ((), "number", (), 1), ((3,), "copy", (0,), False), ((3,), "copy", (0,), 1), ((3,), "copy", (), 0),
    ((3,), "copy", (0, 0), 0), ((3,), "add", (0, 1), 1), ((3,), "add", (0,), 0), ((3,), "add", (0, 1, 1), 0),
    ((3,), "add", (0, 1), None), ((3,), "div", (0, 1), -1), ((3,), "div", (0, 1), True), ((3,), "div", (0, 1), "0"),
    ((3,), "call", (0,), "f"), ((3,), "call", (0,), ("f",)), ((3,), "call", (0,), ("f", -1)), ((3,), "call", (0,), ("F", 0)),
    ((3,), "call", (0,), ["f", 0]), ((3, 3), "call", (0,), ("f", 0)), ((3,), "call", (0,), ("f", 0, 0)),
    ((3,), "call", (0,), ("f", True)), ((3,), "call", [0], ("f", 0)), ((3,), "call", (0,), ("call", 0)),
    ((3,), "tell", (0,), 0), ((), "tell", (), 0), ((), "tell", (0,), 1), ((), "tell", (0, 0), 0), ((3,), "beat", (), 0),
    ((), "beat", (0,), 0), ((), "beat", (), False), ((), "beat", ()), ((), "beat", (), 0, 0), [(), "beat", (), 0],
    ([], "beat", (), 0), ((), "beat", [], 0), ((), "keep", (), 0), ((), ("beat",), (), 0), ((), ["beat"], (), 0),
    ((True,), "copy", (0,), 0), ((-1,), "copy", (0,), 0), ((3,), "copy", (False,), 0), (3, "copy", (0,), 0), None, (), "beat")


def with_step(step):
    return ("g", 0, (((0, 1), (step,), ("give", ())),))


def with_blocks(*blocks, gives=0):
    return ("g", gives, blocks)


def naive_settled(graph):
    marks = [mark for takes, steps, _ in graph[2] for mark in takes + tuple(one for step in steps for one in step[0])]
    if len(marks) != len(set(marks)):
        return False
    for _, _, ending in graph[2]:
        if ending[0] == "to" and len(ending[2]) != len(graph[2][ending[1]][0]):
            return False
    return naive_made_ahead(graph)


def naive_made_ahead(graph):
    read = [mark for mark, _ in oracles.readings(graph)]
    return not any(mark not in graph[2][0][0] and oracles.is_awaited(graph, mark, 0, 0) for mark in read)


class GraphKindsTest(unittest.TestCase):
    def check(self, thing, graph, loose, settled):
        found = (is_graph(thing), is_loose(thing), is_settled(thing))
        self.assertEqual(found, (graph, loose, settled), thing)

    def test_example(self):
        self.assertEqual([is_settled(LOOP), is_loose(LOOP), is_loose(ONE)], [True, False, True])

    def test_document_graphs(self):
        for graph in (ONE, TWO, SIX, PAIR, FAR):
            self.check(graph, True, True, True)
        for graph in (LOOP, PICK):
            self.check(graph, True, False, True)

    def test_any_value(self):
        for thing in ODD_VALUES:
            self.check(thing, False, False, False)

    def test_heads(self):
        for thing in (("G", 0, (GIVE,)), (None, 0, (GIVE,)), ("g", -1, (GIVE,)), ("g", True, (GIVE,)), ("g", 0, ()),
                      ("g", 0, [GIVE]), ("g", 0, GIVE), ("g", 0), ("g", 0, (GIVE,), 0), ["g", 0, (GIVE,)],
                      ("add", 0, (GIVE,)), ("g", False, (GIVE,))):
            self.check(thing, False, False, False)
        self.check(("g", 0, (GIVE,)), True, True, True)

    def test_steps(self):
        for step in GOOD_STEPS:
            self.check(with_step(step), True, True, True)
        for step in BAD_STEPS:
            self.check(with_step(step), False, False, False)

    def test_blocks(self):
        for block in (((), ()), ((), (), ("give", ()), ()), [(), (), ("give", ())], ([], (), ("give", ())),
                      ((), [], ("give", ())), ((0, 0), (), ("give", ())), ((True,), (), ("give", ())), ((-1,), (), ("give", ())),
                      (0, (), ("give", ())), None):
            self.check(with_blocks(block), False, False, False)

    def test_endings(self):
        for ending in (("give",), ("give", (0,)), ("give", []), ("give", (), ()), ["give", ()], (), None, "give", ("to", 1),
                       ("to", 1, (), ()), ("to", 1, []), ("to", 0, ()), ("to", 2, ()), ("to", True, ()), ("to", -1, ()),
                       ("to", 1, (-1,)), ("by", 0, 1), ("by", 0, 1, 1), ("by", 0, 0, 1), ("by", 0, 1, 2), ("by", -1, 1, 2),
                       ("by", True, 1, 2), ("back", 1)):
            self.check(with_blocks(((0,), (), ending), GIVE), False, False, False)
        self.check(with_blocks(((0,), (), ("to", 1, ())), GIVE), True, True, True)
        self.check(with_blocks(((0,), (), ("by", 0, 2, 1)), GIVE, GIVE), True, True, True)

    def test_by_endings(self):
        first = ((), (((5,), "number", (), 1),))
        self.check(with_blocks(first + (("by", 5, 1, 2),), GIVE, GIVE), True, True, True)
        for ending in (("by", -1, 1, 2), ("by", True, 1, 2), ("by", None, 1, 2), ("by", 5, 0, 1), ("by", 5, 1, 0),
                       ("by", 5, 1, 3), ("by", 5, 3, 1), ("by", 5, True, 2), ("by", 5, 2, True), ("by", 5, 1, 2, 0)):
            self.check(with_blocks(first + (ending,), GIVE, GIVE), False, False, False)
            self.check(with_blocks(first + (ending,), GIVE), False, False, False)

    def test_gives(self):
        self.check(with_blocks(((0,), (), ("give", (0, 0))), gives=2), True, True, True)
        self.check(with_blocks(((0,), (), ("give", (0,))), gives=2), False, False, False)
        self.check(with_blocks(((0,), (), ("give", (0, 0, 0))), gives=2), False, False, False)
        self.check(with_blocks(((0,), (), ("to", 1, ())), ((), (BEAT,), ("to", 1, ())), gives=5), True, True, True)

    def test_every_block_is_reached(self):
        self.check(with_blocks(GIVE, GIVE), False, False, False)
        self.check(with_blocks(((), (), ("give", ())), ((), (), ("to", 1, ()))), False, False, False)

    def test_what_by_names(self):
        first = ((0,), (), ("by", 0, 1, 2))
        self.check(with_blocks(first, GIVE, GIVE), True, True, True)
        self.check(with_blocks(first, ((), (), ("to", 2, ())), GIVE), False, False, False)
        self.check(with_blocks(first, ((), (), ("to", 1, ())), GIVE), False, False, False)
        self.check(with_blocks(first, ((), (), ("by", 0, 2, 3)), GIVE, GIVE), False, False, False)
        self.check(with_blocks(first, ((3,), (), ("give", ())), GIVE), False, False, False)

    def test_no_ending_names_block_0(self):
        self.check(with_blocks(((), (BEAT,), ("to", 1, ())), ((), (), ("to", 0, ()))), False, False, False)

    def test_handing(self):
        self.check(with_blocks(((0,), (), ("to", 1, (0,))), ((1,), (), ("give", ()))), True, False, True)
        self.check(with_blocks(((0,), (), ("to", 1, (0, 0))), ((1,), (), ("give", ()))), True, False, False)
        self.check(with_blocks(((0,), (), ("to", 1, ())), ((1,), (), ("give", ()))), True, False, False)
        self.check(with_blocks(((0,), (), ("to", 1, (0,))), GIVE), True, False, False)

    def test_made_once(self):
        copy = ((1,), "copy", (0,), 0)
        self.check(with_blocks(((0,), (copy, copy), ("give", (1,))), gives=1), True, True, False)
        self.check(with_blocks(((0,), (((0,), "copy", (0,), 0),), ("give", (0,))), gives=1), True, True, False)
        self.check(with_blocks(((0,), (copy,), ("to", 1, ())), ((), (copy,), ("give", ()))), True, True, False)
        self.check(with_blocks(((0,), (), ("to", 1, (0,))), ((0,), (), ("give", ()))), True, False, False)

    def test_made_ahead(self):
        make = ((1,), "number", (), 4)
        self.check(with_blocks(((0,), (), ("give", (1,))), gives=1), True, False, False)
        self.check(with_blocks(((0,), (((1,), "add", (0, 1), 0),), ("give", ()))), True, False, False)
        self.check(with_blocks(((0,), (((), "tell", (1,), 0), make), ("give", ()))), True, False, False)
        self.check(with_blocks(((0,), (), ("by", 1, 1, 2)), GIVE, GIVE), True, False, False)
        self.check(with_blocks(((0,), (), ("to", 1, (5,))), ((1,), (), ("give", ()))), True, False, False)

    def test_made_on_each_path(self):
        make = ((1,), "number", (), 4)
        last = ((), (), ("give", (1,)))
        sides = [((), (make,), ("to", 3, ())), ((), (), ("to", 3, ()))]
        self.check(with_blocks(((0,), (), ("by", 0, 1, 2)), sides[0], sides[0], last, gives=1), True, True, False)
        self.check(with_blocks(((0,), (), ("by", 0, 1, 2)), sides[0], sides[1], last, gives=1), True, False, False)
        # Paths count whatever the words are.
        one = (((0,), (((2,), "number", (), 1),), ("by", 2, 1, 2)), sides[0], sides[1], last)
        self.check(with_blocks(*one, gives=1), True, False, False)

    def test_a_loop_makes_only_behind(self):
        graph = with_blocks(((0,), (), ("to", 1, ())), ((), (((), "tell", (1,), 0), ((1,), "copy", (0,), 0)), ("to", 1, ())))
        self.check(graph, True, False, False)

    def test_random_graphs(self):
        for graph in settled_graphs(100, seed=61):
            self.check(graph, True, is_loose(graph), True)
            self.assertEqual(is_loose(graph), not any(takes for takes, _, _ in graph[2][1:]))

    def test_random_graphs_with_a_mark_changed(self):
        wrong = 0
        for graph in settled_graphs(150, seed=62, most_blocks=7):
            marks = oracles.marks_of(graph)
            for mark in marks[:3]:
                changed = oracles.renamed(graph, {mark: marks[-1]})
                self.assertTrue(is_graph(changed))
                self.assertEqual(is_settled(changed), naive_settled(changed))
                wrong += not is_settled(changed)
        self.assertGreater(wrong, 50)

    def test_by_name(self):
        self.assertEqual([is_graph(thing=ONE), is_loose(thing=ONE), is_settled(thing=ONE)], [True] * 3)


if __name__ == "__main__":
    unittest.main()
