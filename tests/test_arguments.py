"""What every function keeps to: arguments stay as they were, results are of just the kinds that the document tells."""

import copy
import unittest

from linkneed import (
    acrossing, basing, binding, bundling, changes, changing, compiling, counting, deedkinds, deeds, deedwalks, desk, dropping, edging,
    eventreadings, eventtexts, firmlive, folding, graphclasses, graphing, graphkinds, graphruns, holdingchecker, holdingpapers, homes,
    imageruns, joining, judging, kinds, laying, layouts, lifting, linkclasses, linking, live, liveevents, lives, loading, loosening,
    momentchecker, momentpapers, needclasses, needing, operations, orders, passclasses, passes, pieces, piling, placing, programs,
    replaying, ringing, rowkinds, rowruns, settling, sheets, spotchecker, standchecker, standclasses, standing, straightening,
    structures, transferring, treeruns, unitclasses, unitforms, uniting, unitreadings, unitsclasses, unittexts, values)
from linkneed.errors import NeedError
from tests.samples import A, B, CASES, DOWN, FIVE, LOOP, MAIN, ONE, PAIRS, PICK, RING, SIX, TWICE, TWO
from tests.test_imageruns import IMAGE

NAMES = ("fold", "drop", "straighten", "lift")
SETTLED = (
    folding.due_folds, folding.folded, folding.fold_deeds, dropping.spare_marks, dropping.dropped,
    straightening.straightened, lifting.loops_of, lifting.lifted, orders.dominators, standing.stands_of, lives.crowds_of,
    needing.own_need, needing.fullest_spot, loosening.loosened, homes.homes_of)
OF_PROGRAMS = (momentpapers.moment_of, holdingpapers.holding_of, piling.pile_words, sheets.sheets_of)
OF_BLOCKS = (orders.followers, orders.leaders, edging.edge_pairs)
OF_SPOTS = (lives.awaited_at, lives.alive_at, lives.crowd_at)
CHECKS = (
    kinds.is_integer, kinds.is_number, kinds.is_word, kinds.is_title, unitforms.is_expression, unitforms.is_body,
    unitforms.is_unit, graphkinds.is_graph, graphkinds.is_loose, graphkinds.is_settled, liveevents.is_event,
    liveevents.is_log, transferring.is_transfers, sheets.is_sheet, sheets.is_sheets, rowkinds.is_row, rowkinds.is_piece,
    rowkinds.is_object, deedkinds.is_deed)
OF_TRANSFERS = (transferring.transfer_rows, transferring.unlike_pairs, transferring.closed_rings)
OF_SHEETS = (ringing.rings_of, basing.bases_of, basing.need_of)
OF_ANY = (
    judging.judge_unit, unittexts.unit_text, programs.lets_program, bundling.bundle, binding.lets_units, unitreadings.read_unit,
    replaying.replayed, unitclasses.Written, unitclasses.Judged, unitsclasses.House, graphclasses.Flow, graphclasses.Loose,
    passclasses.Bettering, standclasses.Stands, standclasses.Still, needclasses.Needing, eventtexts.event_line,
    eventreadings.read_event, desk.desk) + OF_TRANSFERS + OF_SHEETS
OF_RUNS = (treeruns.run_units, counting.entries_of, counting.open_most)
UNITS = (TWICE, MAIN)
OBJECT = ((), (B, A))
DEEDS = (("same", 2, 1), ("drop", (2,)))
JUMPS = (("jump", 2), 7, ("jump", 0), 1)


TESTS = (deeds.is_due, layouts.holds_long)


def calls():
    """Pairs of a function and its arguments."""
    for graph in (ONE, TWO, LOOP, SIX, PICK):
        for function in SETTLED:
            yield function, (graph,)
        for block in range(len(graph[2])):
            for function in OF_BLOCKS:
                yield function, (graph, block)
            for function in OF_SPOTS:
                yield function, (graph, block, 0)
            yield standing.register_at, (graph, block, 0, 1)
        for function in (passes.passed, passes.pass_deeds):
            yield function, (graph, NAMES)
    for unit in (MAIN, TWICE, CASES, DOWN):
        title = unit[3][0][0]
        for function in (placing.places_in, placing.kinds_in, structures.signature_of, graphing.graph_of):
            yield function, (unit, title)
        yield settling.settled, (graphing.graph_of(unit, title),)
        yield joining.joins_of, (graphing.graph_of(unit, title),)
    for kind in ("word", "pair", "maybe"):
        yield structures.structure_of, (PAIRS, kind)
        yield structures.noughts_of, (structures.structure_of(PAIRS, kind),)
        yield structures.width_of, (structures.structure_of(PAIRS, kind),)
    for unit in (MAIN, TWICE, CASES, DOWN, PAIRS):
        yield judging.judge_unit, (unit,)
        yield unittexts.unit_text, (unit,)
        yield unitreadings.read_unit, (unittexts.unit_text(unit),)
        for names in ((), NAMES):
            yield compiling.compile_unit, (unit, names)
    yield programs.lets_program, ((ONE, TWO),)
    yield acrossing.across_at, (TWO, 0, 1)
    yield sheets.sheets_of, ((ONE, TWO),)
    yield pieces.piece_of, (LOOP, ("word",), "word")
    for function in OF_TRANSFERS:
        yield function, (((0, 1), (1, 0), (2, 0), (3, 3)),)
    yield transferring.moved_by, ((("move", 2, 0), ("swap", 0, 1)), (7, 8, 9))
    for function in OF_SHEETS:
        yield function, (FIVE,)
    yield ringing.reached_from, (FIVE, "main")
    yield bundling.bundle, ((OBJECT, ((("f", (), "word"),), ())),)
    yield laying.laid, (RING, (("main", 0),), (("main",),))
    yield linking.link, (OBJECT, 2)
    yield rowruns.run_linked, (linking.link(OBJECT, 2), (5,), 9)
    yield changes.changes_between, (OBJECT, ((), (RING,)))
    for function in OF_RUNS:
        yield function, (UNITS, (5,), 9)
    yield binding.lets_units, (UNITS,)
    yield uniting.as_one, (UNITS, "all")
    yield uniting.split_up, (UNITS,)
    yield values.nested_of, (((), ("word",)), (1, 9))
    yield values.flat_of, (((), ("word",)), (1, (9,)))
    yield spotchecker.lets_spot, (LOOP, (2, 1, (2, 4)))
    yield joining.lets_placing, (graphing.graph_of(DOWN, "down"), ((1, 0), (2, 0)))
    yield operations.operated, ("rem", 7, 0)
    for deed in DEEDS[:1]:
        for function in (deeds.is_due, deeds.done):
            yield function, (TWO, deed)
    yield deedwalks.lets_deeds, (TWO, DEEDS)
    yield standchecker.lets_stands, (LOOP, standing.stands_of(LOOP))
    for function in OF_PROGRAMS:
        yield function, ((ONE, TWO),)
    yield graphruns.run_graphs, ((ONE, TWO), (5,), 9)
    yield momentchecker.lets_moment, ((ONE, TWO), momentpapers.moment_of((ONE, TWO)))
    yield holdingchecker.lets_holding, ((ONE, TWO), holdingpapers.holding_of((ONE, TWO)))
    yield changing.need_with, (FIVE, ("odd", 1, ()))
    yield layouts.long_jumps, (JUMPS, -8, 7)
    yield layouts.holds_long, (JUMPS, -8, 7, (0, 2))
    yield loading.load, (linking.link(OBJECT, 2),)
    yield loading.rows_in, (IMAGE[0],)
    yield eventtexts.event_line, (("put", MAIN),)
    yield eventreadings.read_event, ("passes fold drop",)
    yield desk.desk, (("need", "drop a", "put unit a", "run 3 4"),)
    yield imageruns.run_image, (IMAGE, (5,), 9)


def is_plain(value):
    if isinstance(value, tuple):
        return all(map(is_plain, value))
    return value is None or isinstance(value, str) or isinstance(value, int) and not isinstance(value, bool)


class ArgumentsTest(unittest.TestCase):
    def test_arguments_stay_and_results_are_plain(self):
        for function, args in calls():
            before = copy.deepcopy(args)
            result = function(*args)
            self.assertEqual(args, before)
            self.assertTrue(isinstance(result, bool) if function in TESTS else is_plain(result), (function, result))
            self.assertEqual(function(*args), result)

    def test_any_values_stay(self):
        things = ([], [["fold"], [1]], ("put", list(TWICE)), ([LOOP],), ("g", 0, [((), (), ("give", []))]), (3, (), [("drop", "a")]))
        for thing in things:
            before = copy.deepcopy(thing)
            for function in CHECKS:
                self.assertIs(function(thing), False)
            for function in OF_ANY:
                self.assertRaises(NeedError, function, thing)
            self.assertRaises(NeedError, passes.passed, ONE, thing)
            self.assertRaises(NeedError, structures.structure_of, PAIRS, thing)
            self.assertRaises(NeedError, operations.operated, thing, thing, thing)
            self.assertRaises(NeedError, ringing.reached_from, thing, thing)
            self.assertRaises(NeedError, ringing.is_ring_call, FIVE, thing, thing)
            self.assertRaises(NeedError, compiling.compile_unit, MAIN, thing)
            self.assertRaises(NeedError, transferring.moved_by, thing, (1, 2))
            self.assertRaises(NeedError, linking.link, thing, 2)
            self.assertRaises(NeedError, changes.changes_between, OBJECT, thing)
            self.assertRaises(NeedError, live.LiveBench, 1, thing)
            self.assertRaises(NeedError, live.LiveBench(1, ()).go, thing)
            self.assertRaises(NeedError, treeruns.run_units, UNITS, thing, 9)
            self.assertRaises(NeedError, uniting.as_one, UNITS, thing)
            self.assertRaises(NeedError, values.flat_of, ((), ("word",)), thing)
            self.assertIs(values.is_value(((), ("word",)), thing), False)
            self.assertRaises(NeedError, spotchecker.lets_spot, LOOP, thing)
            self.assertRaises(NeedError, joining.lets_placing, graphing.graph_of(DOWN, "down"), thing)
            self.assertRaises(NeedError, unitclasses.Written(MAIN).part_at, thing)
            self.assertRaises(NeedError, unitclasses.Written(MAIN).put, thing)
            self.assertRaises(NeedError, unitsclasses.House(*UNITS).put, thing)
            for function in (deeds.is_due, deeds.done, deedwalks.lets_deeds, standchecker.lets_stands):
                self.assertRaises(NeedError, function, TWO, thing)
            for function in (momentchecker.lets_moment, holdingchecker.lets_holding):
                self.assertRaises(NeedError, function, (ONE, TWO), thing)
            self.assertRaises(NeedError, graphruns.run_graphs, (ONE, TWO), thing, 9)
            self.assertRaises(NeedError, changing.need_with, FIVE, thing)
            self.assertRaises(NeedError, layouts.long_jumps, thing, 0, 0)
            self.assertRaises(NeedError, layouts.holds_long, JUMPS, 0, 0, thing)
            self.assertRaises(NeedError, linkclasses.Linked, thing, 2)
            self.assertRaises(NeedError, linkclasses.Linked(OBJECT, 2).rows_of, thing)
            self.assertRaises(NeedError, firmlive.FirmBench(1, ()).go, thing)
            self.assertRaises(NeedError, needclasses.Needing(FIVE).without, thing)
            self.assertRaises(NeedError, passclasses.Bettering(TWO).done, thing)
            self.assertRaises(NeedError, passclasses.Bettering(TWO).passed, thing)
            self.assertRaises(NeedError, graphclasses.Loose(TWO).lets, thing)
            self.assertRaises(NeedError, standclasses.Still(LOOP).home, thing)
            self.assertEqual(thing, before)

    def test_checks_give_bools(self):
        for function in CHECKS:
            for thing in (0, 1, "a", (), LOOP, MAIN, ("number", 1), ("drop", "a"), (1, (), ())):
                self.assertIn(function(thing), (True, False))
                self.assertIsInstance(function(thing), bool)

    def test_an_error_keeps_the_very_value(self):
        thing = ["main"]
        for function, first in ((placing.places_in, MAIN), (placing.kinds_in, MAIN), (structures.signature_of, MAIN),
                                (graphing.graph_of, MAIN), (ringing.reached_from, FIVE), (unitclasses.Written.body_of, unitclasses.Written(MAIN)),
                                (unitsclasses.House.unit_of, unitsclasses.House(*UNITS)),
                                (graphclasses.Flow.of_unit, MAIN), (needclasses.Needing.base_of, needclasses.Needing(FIVE)),
                                (linkclasses.Linked.base_of, linkclasses.Linked(OBJECT, 2))):
            try:
                function(first, thing)
            except NeedError as error:
                self.assertIs(error.title, thing)
            else:
                self.fail(function)

    def test_deep_values(self):
        deep_tuple, deep_list = (), []
        for _ in range(40):
            deep_tuple, deep_list = (deep_tuple, "number"), [deep_list]
        for function in CHECKS:
            self.assertIs(function(deep_tuple), False)
            self.assertIs(function(deep_list), False)
            self.assertIs(function((0,) * 5000), False)


if __name__ == "__main__":
    unittest.main()
