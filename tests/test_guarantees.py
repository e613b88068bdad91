"""What the document guarantees over the whole program: all forms of a program have the same outcome and need."""

import random
import unittest

from linkneed.basing import bases_of, need_of
from linkneed.binding import lets_units
from linkneed.bundling import bundle
from linkneed.changes import changes_between
from linkneed.compiling import compile_unit
from linkneed.deeds import done, is_due
from linkneed.eventtexts import event_line
from linkneed.firmlive import FirmBench
from linkneed.graphing import graph_of
from linkneed.graphruns import run_graphs
from linkneed.holdingchecker import lets_holding
from linkneed.holdingpapers import holding_of
from linkneed.imageruns import run_image
from linkneed.linkclasses import Linked
from linkneed.linking import link
from linkneed.live import LiveBench
from linkneed.loading import load
from linkneed.loosening import loosened
from linkneed.momentchecker import lets_moment
from linkneed.momentpapers import moment_of
from linkneed.needclasses import Needing
from linkneed.passes import passed
from linkneed.pieces import piece_of
from linkneed.piling import pile_words
from linkneed.prefixes import is_beginning
from linkneed.programs import lets_program
from linkneed.replaying import replayed
from linkneed.rowruns import run_linked
from linkneed.settling import settled
from linkneed.sheets import sheets_of
from linkneed.standchecker import lets_stands
from linkneed.standing import stands_of
from linkneed.structures import width_of
from linkneed.treeruns import run_units
from linkneed.uniting import as_one, split_up
from tests import linkoracles
from tests.checks import refusal, same_kind
from tests.programsamples import programs
from tests.test_deeds import due_deeds
from tests.test_linking import bundled, sheets_of_pieces
from tests.unitsamples import bound_units, some_args

NAMES = ((), ("fold", "drop"), ("straighten", "fold", "lift", "drop", "straighten"))
MOST = (0, 1, 2, 5, 17, 80)


def loose_graphs(units):
    return tuple(graph_of(unit, function[0]) for unit in units for function in unit[3])


def walked(graph, source, many):
    """What some deeds leave."""
    for _ in range(many):
        due = [deed for deed in due_deeds(graph, source)[:20] if is_due(graph, deed)]
        if due:
            graph = done(graph, due[0])
    return graph


def object_of(graphs):
    """The object of a program; what is taken and given are words."""
    pieces = []
    for graph in graphs:
        gives = (("word",) * graph[1],) if graph[1] != 1 else "word"
        pieces.append(piece_of(graph, ("word",) * len(graph[2][0][0]), gives))
    return ((), tuple(sorted(pieces, key=lambda piece: piece[0])))


class OutcomeTest(unittest.TestCase):
    def test_units(self):
        source = random.Random(20)
        ends = set()
        for seed, units in enumerate(bound_units(90, seed=70)):
            lets_units(units)
            loose = loose_graphs(units)
            graphs = tuple(map(settled, loose))
            behind = tuple(walked(graph, source, 8) for graph in graphs)
            programs_of_units = [loose, graphs, behind, tuple(map(loosened, behind))]
            for names in NAMES:
                programs_of_units.append(tuple(passed(graph, names) for graph in graphs))
            linked = [link(one, 16) for one in self.objects(units) if linkoracles.need(sheets_of_pieces(one[1])) <= 16]
            images = list(map(load, linked))
            for number in range(2):
                args = some_args(units, 5 * seed + number)
                last = None
                for most in MOST:
                    outcome = run_units(units, args, most)
                    ends.add(outcome[1][:2] if outcome[1][0] == "fault" else outcome[1][:1])
                    others = [run_graphs(graphs, args, most) for graphs in programs_of_units]
                    others += [run_linked(one, args, most) for one in linked] + [run_image(one, args, most) for one in images]
                    others += [run_units((as_one(units, "all"),), args, most), run_units(split_up(units), args, most)]
                    self.assertTrue(all(same_kind(other, outcome) for other in others))
                    self.assertTrue(last is None or is_beginning(last, outcome))
                    last = outcome
        self.assertEqual(ends, {("gave",), ("on",), ("fault", "deep"), ("fault", "nought")})

    def objects(self, units):
        for names in NAMES:
            yield bundled(units, names)
        yield compile_unit(as_one(units, "all"), NAMES[1])
        yield bundled(split_up(units)[::-1], NAMES[2])

    def test_programs_with_rings(self):
        source = random.Random(21)
        met = 0
        for seed, graphs in enumerate(programs(150, seed=20, rings=0.4)):
            lets_program(graphs)
            behind = tuple(walked(graph, source, 6) for graph in graphs)
            lets_program(behind)
            args = tuple(source.choice((0, 1, 2, 9, 65535)) for _ in [one for one in graphs if one[0] == "main"][0][2][0][0])
            linked = [link(object_of(one), 16) for one in (graphs, behind) if need_of(sheets_of(one)) <= 16]
            met += len(linked)
            for most in MOST:
                outcome = run_graphs(graphs, args, most)
                for one in linked:
                    self.assertTrue(same_kind(run_linked(one, args, most), outcome))
                    self.assertTrue(same_kind(run_image(load(one), args, most), outcome))
                self.assertEqual(run_graphs(behind, args, most), outcome)
                self.assertEqual(run_graphs(tuple(map(loosened, graphs)), args, most), outcome)
        self.assertGreater(met, 150)

    def test_the_pile(self):
        for graphs in programs(80, seed=21, rings=0.6):
            if need_of(sheets_of(graphs)) > 16:
                continue
            kept = {}
            for title, _, rows in link(object_of(graphs), 16)[3]:
                kept[title] = run = 0
                for row in rows:
                    run = run + 1 if row[0] == "keep" else 0
                    kept[title] = max(kept[title], run)
            self.assertEqual(tuple(sorted(kept.items())), pile_words(graphs))


class NeedTest(unittest.TestCase):
    def check(self, graphs):
        sheets = sheets_of(graphs)
        need = need_of(sheets)
        self.assertEqual(lets_moment(graphs, moment_of(graphs)), need)
        self.assertEqual(lets_holding(graphs, holding_of(graphs)), need)
        self.assertEqual(Needing.of_program(graphs).need_now, need)
        one = object_of(graphs)
        self.assertEqual(tuple(sheets_of_pieces(one[1])), sheets)
        for registers in range(1, 17):
            if registers < need:
                self.assertEqual(refusal(link, one, registers), ("Beyond", {"need": need}))
            else:
                linked = Linked(one, registers)
                self.assertEqual([linked.registers_needed, linked.titles_laid], [need, tuple(title for title, _ in bases_of(sheets))])
                self.assertEqual([(title, linked.base_of(title)) for title in linked.titles_laid], list(bases_of(sheets)))
        for graph in graphs:
            own = [sheet[1] for sheet in sheets if sheet[0] == graph[0]][0]
            self.assertEqual(lets_stands(graph, stands_of(graph)), own)

    def test_programs(self):
        for graphs in programs(80, seed=22, rings=0.3):
            self.check(graphs)

    def test_units(self):
        for seed, units in enumerate(bound_units(30, seed=71)):
            graphs = tuple(passed(settled(graph), NAMES[seed % 3]) for graph in loose_graphs(units))
            self.check(graphs)
            one = bundled(units, NAMES[seed % 3])
            self.assertEqual(sheets_of_pieces(one[1]), sheets_of(graphs))
            self.assertEqual([piece[3] >= width_of(piece[2]) for piece in one[1]], [True] * len(one[1]))

    def test_one_bundle(self):
        for seed, units in enumerate(bound_units(30, seed=72)):
            names = NAMES[seed % 3]
            self.assertEqual(compile_unit(as_one(units, "z"), names), bundled(units, names))
            self.assertEqual(bundled(split_up(units), names), bundled(units, names))
            objects = tuple(compile_unit(unit, names) for unit in units)
            self.assertEqual(bundle((bundle(objects[1:]),) + objects[:1]), bundle(objects))


class LinkedRowsTest(unittest.TestCase):
    def test_rows_without_a_change_are_equal(self):
        equal = 0
        for seed, graphs in enumerate(programs(80, seed=23, rings=0.3)):
            changed_one = seed % len(graphs)
            others = tuple(walked(graph, random.Random(seed), 3) if number == changed_one else graph
                           for number, graph in enumerate(graphs))
            one, other = object_of(graphs), object_of(others)
            if max(need_of(sheets_of(graphs)), need_of(sheets_of(others))) > 16:
                continue
            changes = dict(changes_between(one, other))
            rows = {title: (base, laid) for title, base, laid in link(one, 16)[3]}
            for title, base, laid in link(other, 16)[3]:
                if title not in changes:
                    self.assertEqual(rows[title], (base, laid))
                    equal += 1
        self.assertGreater(equal, 40)


class BenchTest(unittest.TestCase):
    def test_consequences(self):
        for seed, units in enumerate(bound_units(20, seed=73)):
            source = random.Random(seed)
            for maker in (LiveBench, FirmBench):
                bench = maker(16, NAMES[seed % 3])
                order = list(units)
                source.shuffle(order)
                for unit in order:
                    bench.go(("put", unit))
                again = LiveBench(16, NAMES[seed % 3])
                for unit in units:
                    again.go(("put", unit))
                self.assertTrue(bench == again and again == bench and replayed(bench.log) == bench)
                self.assertEqual(bench.object_now(), bundled(units, NAMES[seed % 3]))
                if bench.present_need() <= 16:
                    args = some_args(units, seed)
                    self.assertEqual(bench.run(args, 40), run_units(units, args, 40))
                self.assertEqual(bench.undo(len(units)), tuple(("put", unit) for unit in order))
                self.assertEqual(bench, LiveBench(16, NAMES[seed % 3]))
                self.assertTrue(all(event_line(("put", unit)).startswith("put unit ") for unit in units))


if __name__ == "__main__":
    unittest.main()
