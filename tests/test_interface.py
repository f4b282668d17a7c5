"""The interface: each name stands in its file, with its arguments."""

import ast
import inspect
import importlib
import pathlib
import unittest

PACKAGE = pathlib.Path(__file__).resolve().parent.parent / "clockless"

# Module -> functions and classes; of a class, its methods.
FUNCTIONS = {
    "weights": ["weight(marking, weights)", "is_balanced(net, weights)", "is_trap(net, places)",
                "is_siphon(net, places)", "largest_trap(net, places)", "largest_siphon(net, places)"],
    "spectext": ["format_spec(spec)", "parse_spec(text)"],
    "graphs": ["explore(spec, *, limit=1000)"],
    "traces": ["trace_of(spec, sequence)", "follow(graph, trace)", "view(trace, *, signals)"],
    "checks": ["nondeterminism(graph)", "disabling(graph)", "driven_excited(graph, state)", "conflicts(graph)",
               "is_implementable(graph)", "check(graph, *, coded=True)"],
    "cubes": ["contains(cube, code)", "is_inside(cube, other)", "intersection(cube, other)", "hull(codes)",
              "literal_count(cube)", "codes_in(cube)", "with_character(cube, index, character)"],
    "covers": ["cover_contains(cover, code)", "implements(cover, on, off)", "expand(cube, off)",
               "is_prime(cube, off)", "compact_cover(on, off)", "restriction(cover, cube)",
               "complement(cover, width)", "is_full(cover, width)"],
    "regions": ["phase(graph, state, signal)", "regions(graph, edge)"],
    "monotone": ["is_monotonous(graph, edge, region, cube)", "least_monotonous(graph, edge, region)",
                 "monotonous_cover(graph, edge)"],
    "functions": ["next_function(graph, signal)", "set_function(graph, signal)", "reset_function(graph, signal)"],
    "inserts": ["insertion_points(spec)", "new_name(spec)", "insert(spec, name, *, rise, fall, value)",
                "candidates(spec)"],
    "resolving": ["weigh(spec, candidate, *, limit=1000)", "best_candidate(spec, *, limit=1000)",
                  "resolve(spec, *, rounds=2, limit=1000)"],
    "nettext": ["format_netlist(netlist)", "parse_netlist(text)"],
    "building": ["build(graph, *, style='split')"],
    "examining": ["examine(board, *, limit=10000)", "is_certificate(board, states)"],
    "flow": ["design(spec, *, style='split', rounds=2, limit=1000)",
             "synthesise(spec, *, style='split', rounds=2, limit=1000)", "reason(spec, *, rounds=2, limit=1000)"],
    "processes": ["is_well_formed(process, signal_count)", "depth(process)", "steps(process)"],
    "translating": ["front_width(process)", "back_width(process)", "is_connectable(process)", "is_closed(process)",
                    "translate(program)"],
    "proctext": ["format_process(process, signals)", "format_program(program)", "parse_program(text)"],
    "composing": ["are_composable(first, second)", "compose(first, second)",
                  "unreceived(first, second, *, limit=1000)"],
    "timing": ["simulate(board, delays, *, count)", "glitches(board, delays, *, count)", "delays_for(board, moves)",
               "wave(board, events, wire)"],
    "tidying": ["source(netlist, wire)", "needed(netlist)", "tidied(netlist)"],
    "explaining": ["sequence_text(spec, sequence)", "explanation(spec, refusal)"],
    "prefixes": ["unfold(spec, *, limit=500)"],
    "configurations": ["is_configuration(prefix, events)", "cut(prefix, events)", "state_of(prefix, events)",
                       "relation(prefix, first, second)", "linearised(prefix, events)",
                       "configurations(prefix, *, limit=5000)", "states_of(prefix, *, limit=5000)"],
    "fanin": ["fan_in(gate)", "widest(netlist)", "reduced(netlist, *, width)",
              "bounded(spec, netlist, *, width, limit=10000)"],
    "compiling": ["compile_program(text, *, style='split', rounds=2, limit=1000)", "follow_program(program, trace)"],
}

METHODS = {
    ("nets", "Net"): ["__init__(self, place_count, transitions, marked)", "__len__(self)", "preset(self, transition)",
                      "postset(self, transition)", "consumers(self, place)", "producers(self, place)",
                      "is_enabled(self, marking, transition)", "enabled(self, marking)",
                      "fire(self, marking, transition)", "fire_all(self, sequence, *, marking=None)",
                      "markings_along(self, sequence)", "conflict(self, first, second)",
                      "independent(self, first, second)"],
    ("specs", "Spec"): ["__init__(self, net, signals, edges, start)", "__len__(self)", "is_input(self, signal)",
                        "signal_named(self, name)", "transitions_of(self, edge)", "edge_text(self, edge)",
                        "transition_text(self, transition)", "transition_named(self, text)", "mirror(self)",
                        "__eq__(self, other)"],
    ("graphs", "StateGraph"): ["__len__(self)", "__iter__(self)", "marking(self, state)", "code(self, state)",
                               "state_at(self, marking, code)", "path(self, state)", "arcs(self, state)",
                               "arcs_into(self, state)", "edges(self, state)", "after(self, state, edge)",
                               "is_excited(self, state, signal)"],
    ("netlists", "Netlist"): ["__init__(self, signals, start, gates)", "__len__(self)", "__eq__(self, other)",
                              "gate_value(self, values, wire)", "is_excited(self, values, wire)",
                              "excited(self, values)", "flipped(self, values, wire)"],
    ("boards", "Board"): ["__init__(self, spec, netlist)", "moves(self, state)", "after(self, state, move)",
                          "flaw_of_move(self, state, move)", "flaw_of_state(self, state)", "run(self, moves)",
                          "trace(self, moves)"],
    ("processes", "Program"): ["__init__(self, signals, start, loops)", "steps(self, state)"],
    ("prefixes", "Prefix"): ["__len__(self)", "transition(self, event)", "consumed(self, event)",
                             "produced(self, event)", "past(self, event)", "is_cutoff(self, event)"],
}

PROPERTIES = {("specs", "Spec"): ["driven"], ("netlists", "Netlist"): ["signal_count", "initial"],
              ("boards", "Board"): ["initial"], ("flow", "Design"): ["inserted"],
              ("processes", "Program"): ["initial"], ("prefixes", "Prefix"): ["conditions"]}

GENERATORS = [("nets", "Net", "markings_along"), ("cubes", None, "codes_in"), ("inserts", None, "candidates")]


def defined(module):
    """The functions and classes that the file itself defines."""
    tree = ast.parse((PACKAGE / f"{module}.py").read_text())
    return {node.name for node in tree.body if isinstance(node, (ast.FunctionDef, ast.ClassDef))}


class Interface(unittest.TestCase):
    def test_functions(self):
        for module, listed in FUNCTIONS.items():
            content = importlib.import_module(f"clockless.{module}")
            for text in listed:
                name = text.split("(")[0]
                with self.subTest(text):
                    self.assertIn(name, defined(module))
                    self.assertEqual(name + str(inspect.signature(getattr(content, name))), text)

    def test_methods(self):
        for (module, owner), listed in METHODS.items():
            content = getattr(importlib.import_module(f"clockless.{module}"), owner)
            self.assertIn(owner, defined(module))
            for text in listed:
                name = text.split("(")[0]
                with self.subTest(f"{owner}.{text}"):
                    self.assertIn(name, vars(content))
                    self.assertEqual(name + str(inspect.signature(vars(content)[name])), text)

    def test_properties(self):
        for (module, owner), listed in PROPERTIES.items():
            content = getattr(importlib.import_module(f"clockless.{module}"), owner)
            for name in listed:
                self.assertIsInstance(vars(content)[name], property)

    def test_generators(self):
        for module, owner, name in GENERATORS:
            content = importlib.import_module(f"clockless.{module}")
            made = getattr(getattr(content, owner), name) if owner else getattr(content, name)
            self.assertTrue(inspect.isgeneratorfunction(made))
