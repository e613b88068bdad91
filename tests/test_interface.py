"""The names and arguments of the interface: each stands, defined there, in the module that lists it."""

import ast
import importlib
import inspect
import os
import re
import unittest

PACKAGE = os.path.join(os.path.dirname(os.path.dirname(os.path.abspath(__file__))), "linkneed")
MODULES = """
kinds: is_integer(thing), is_number(thing), is_word(thing), is_title(thing)
unitforms: is_expression(thing), is_body(thing), is_unit(thing)
judging: judge_unit(unit)
structures: structure_of(unit, kind), width_of(structure), noughts_of(structure), signature_of(unit, title)
placing: places_in(unit, title), kinds_in(unit, title)
unittexts: unit_text(unit)
unitreadings: read_unit(text)
unitclasses: class Written(unit), class Judged(unit)
operations: operated(operation, one, other)
values: is_value(structure, words), nested_of(structure, words), flat_of(structure, value)
binding: lets_units(units)
treeruns: run_units(units, args, most)
counting: entries_of(units, args, most), open_most(units, args, most)
uniting: as_one(units, name), split_up(units)
prefixes: is_beginning(one, other)
unitsclasses: class House(*units), class United(name, *units)
graphkinds: is_graph(thing), is_loose(thing), is_settled(thing)
graphing: graph_of(unit, title)
orders: followers(graph, block), leaders(graph, block), dominators(graph), dominates(graph, one, other)
joining: joins_of(loose), lets_placing(loose, thing)
settling: settled(loose)
loosening: loosened(graph)
programs: lets_program(thing)
graphruns: run_graphs(graphs, args, most)
graphclasses: class Flow(graph), class Loose(graph)
deedkinds: is_deed(thing)
deeds: is_due(graph, deed), done(graph, deed)
deedwalks: lets_deeds(graph, thing)
folding: due_folds(graph), folded(graph), fold_deeds(graph)
dropping: spare_marks(graph), dropped(graph)
straightening: straightened(graph)
lifting: loops_of(graph), lifted(graph)
passes: PASSES, passed(graph, names), pass_deeds(graph, names)
passclasses: class Bettering(graph)
lives: awaited_at(graph, block, index), alive_at(graph, block, index), crowd_at(graph, block, index), crowds_of(graph)
needing: own_need(graph), fullest_spot(graph)
spotchecker: lets_spot(graph, thing)
standing: stands_of(graph), register_at(graph, block, index, one)
homes: homes_of(graph)
standchecker: lets_stands(graph, thing)
transferring: is_transfers(thing), transfer_rows(pairs), unlike_pairs(pairs), closed_rings(pairs), moved_by(rows, words)
edging: edge_pairs(graph, block)
standclasses: class Stands(graph), class Still(graph)
acrossing: across_at(graph, block, index)
sheets: is_sheet(thing), is_sheets(thing), sheet_of(graph), sheets_of(graphs)
ringing: reached_from(sheets, name), rings_of(sheets), is_ring_call(sheets, caller, called)
basing: bases_of(sheets), need_of(sheets)
momentpapers: moment_of(graphs)
momentchecker: lets_moment(graphs, thing)
holdingpapers: holding_of(graphs)
holdingchecker: lets_holding(graphs, thing)
piling: pile_words(graphs)
changing: need_with(sheets, sheet)
needclasses: class Needing(sheets)
rowkinds: is_row(thing), is_piece(thing), is_object(thing)
pieces: piece_of(graph, takes, gives)
compiling: compile_unit(unit, names)
bundling: bundle(objects)
laying: laid(piece, bases, rings)
linking: link(one, registers)
rowruns: run_linked(linked, args, most)
layouts: long_jumps(things, low, high), holds_long(things, low, high, chosen)
loading: load(linked), rows_in(words)
imageruns: run_image(image, args, most)
linkclasses: class Linked(one, registers)
changes: changes_between(one, other)
liveevents: is_event(thing), is_log(thing)
live: class LiveBench(registers, names)
firmlive: class FirmBench(registers, names)
replaying: replayed(log)
eventtexts: event_line(event)
eventreadings: read_event(line)
desk: desk(lines)
"""
# A property stands without brackets.
METHODS = """
Written: unit_now, text(), functions(), shapes(), uses(), judged(), body_of(name), part_at(path), put(function, *, ahead=False)
Written: without(name), read(text), __contains__, __iter__, __eq__
Judged: put(function, *, ahead=False), without(name)
House: units_now, functions_now, run(args, most), entered(args, *, most), unit_of(name), texts(), put(one), without(name)
House: united(name), apart(), of_texts(*texts), __contains__, __len__, __iter__, __eq__
United: former_now
Flow: graph_now, kind_now, counts(), lines(), settle(), loosen(), of_unit(unit, title), __len__, __iter__, __contains__, __str__, __eq__
Loose: of_unit(unit, title), joins(), lets(thing)
Bettering: graph_now, many_now, is_due(deed), __call__(deed), done(deed), passed(name), back(*, many=1), deeds()
Bettering: behind(graph, *deeds), __iter__, __eq__
Stands: graph_now, own_now, __getitem__, __call__(block, index=0), __iter__, __contains__, register_at(mark, *, block, index=0)
Stands: moves(block), most(*blocks), registers_by(graph, thing), __eq__
Still: home(mark), marks_in(number)
Needing: sheets_now, need_now, base_of(name), bases(*, least=0), rings(), put(sheet), without(name), __call__(sheet)
Needing: of_program(graphs), __contains__, __len__, __iter__, __eq__
Linked: program_laid, registers_needed, titles_laid, run(args, most), words(), rows_of(name), base_of(name), within(registers)
Linked: __contains__, __eq__, of_units(*units, registers=16, names=())
LiveBench: units_now, passes_now, registers_now, go(event), tried(event), undo(many=1), do_all(events, *, keep=False), object_now()
LiveBench: linked_now(), run(args, most), present_need(), unit_of(name), log, tally, compiled, __len__, __iter__, __contains__, __eq__
"""
BASES = {"Judged": "Written", "United": "House", "Loose": "Flow", "Still": "Stands", "FirmBench": "LiveBench"}


def listed(text):
    """Triples (what stands ahead of the colon, name, arguments in brackets or "")."""
    found = []
    for line in text.strip().split("\n"):
        whole, _, rest = line.partition(": ")
        # A default value may have brackets, too.
        found += [(whole, name, args) for name, args in re.findall(r"((?:class )?\w+)(\((?:[^()]|\(\))*\))?", rest)]
    return found


def args_of(thing, passed_over=0):
    signature = inspect.signature(thing)
    parameters = list(signature.parameters.values())[passed_over:]
    return str(signature.replace(parameters=parameters))


def defined_in(module):
    with open(os.path.join(PACKAGE, module + ".py"), encoding="utf-8") as file:
        return {node.name: type(node) for node in ast.parse(file.read()).body if isinstance(node, (ast.FunctionDef, ast.ClassDef))}


def classes():
    found = {}
    for module, name, _ in listed(MODULES):
        if name.startswith("class "):
            name = name.removeprefix("class ")
            found[name] = getattr(importlib.import_module("linkneed." + module), name)
    return found


class InterfaceTest(unittest.TestCase):
    def test_how_the_lists_are_read(self):
        self.assertEqual(listed("a: class B(*c, d=()), e, f()"), [("a", "class B", "(*c, d=())"), ("a", "e", ""), ("a", "f", "()")])
        self.assertEqual([len(listed(MODULES)), len(classes()), len(listed(METHODS))], [123, 13, 114])

    def test_functions_and_classes(self):
        for module, name, args in listed(MODULES):
            if args:
                is_class = name.startswith("class ")
                name = name.removeprefix("class ")
                self.assertIs(defined_in(module).get(name), ast.ClassDef if is_class else ast.FunctionDef, (module, name))
                self.assertEqual(args_of(getattr(importlib.import_module("linkneed." + module), name)), args, name)

    def test_each_class_has_what_is_listed_in_itself(self):
        by_name = classes()
        for owner, name, args in listed(METHODS):
            own = vars(by_name[owner])
            self.assertIn(name, own, owner)
            if not args:
                self.assertTrue(name.startswith("__") or isinstance(own[name], property), (owner, name))
            elif isinstance(own[name], staticmethod):
                self.assertEqual(args_of(own[name].__func__), args, (owner, name))
            else:
                self.assertEqual(args_of(getattr(own[name], "__func__", own[name]), 1), args, (owner, name))
        for name, one in by_name.items():
            self.assertIn("__init__", vars(one), name)

    def test_which_class_is_derived_from_which(self):
        by_name = classes()
        for name, one in by_name.items():
            self.assertEqual(one.__bases__, (by_name[BASES[name]] if name in BASES else object,))


if __name__ == "__main__":
    unittest.main()
