"""Point 48: netlists of implementable graphs in the three styles."""

import unittest

from clockless.building import build
from clockless.checks import is_implementable
from clockless.covers import compact_cover
from clockless.errors import CodeConflict
from clockless.functions import next_function, reset_function, set_function
from clockless.graphs import explore
from clockless.monotone import monotonous_cover
from clockless.netlists import Netlist
from clockless.nettext import format_netlist
from clockless.resolving import resolve
from clockless.spectext import parse_spec
from tests.samples import HANDSHAKE, machine, random_loop, random_machines, ring

# c rises as soon as a or b has risen, so its rising edge has no monotonous cover; d follows c.
EITHER = machine(["0000", "1000", "0100", "1100", "1010", "0110", "1110", "1011", "0111", "1111"],
                 [(0, 1), (0, 2), (1, 3), (1, 4), (2, 3), (2, 5), (3, 6), (4, 6), (5, 6), (4, 7), (5, 8), (6, 9),
                  (7, 9), (8, 9)], kinds="iioo")

# b has two regions for each of its edges.
TWICE = machine(["000", "100", "110", "010", "000", "001", "101", "111", "011", "001"],
                [(k, (k + 1) % 10) for k in range(10)], kinds="ioi")


def implementable_graphs():
    """Some of them after conflicts have been resolved."""
    graphs = [explore(random_machines(seed)) for seed in range(200)]
    for seed in range(60):
        try:
            graphs.append(explore(resolve(random_loop(seed))))
        except CodeConflict:
            pass
    return [graph for graph in graphs if is_implementable(graph)]


class Styles(unittest.TestCase):
    def gates(self, spec, **style):
        graph = explore(spec)
        self.assertTrue(is_implementable(graph))
        netlist = build(graph, **style)
        self.assertIsInstance(netlist, Netlist)
        self.assertEqual((netlist.signals, netlist.start), (spec.signals, spec.start))
        return netlist.gates

    def test_a_handshake(self):
        spec = parse_spec(HANDSHAKE)
        self.assertEqual(self.gates(spec, style="atomic"), (None, ("atomic", ("1-",))))
        self.assertEqual(self.gates(spec, style="latch"), (None, ("latch", ("1-",), ("0-",))))
        split = (None, ("c", 3, 5), ("and", "1-"), ("or", (2,)), ("and", "0-"), ("or", (4,)))
        self.assertEqual(self.gates(spec, style="split"), split)
        self.assertEqual(self.gates(spec), split)

    def test_several_driven_signals(self):
        spec = ring("a+ b+ c+ a- b- c-", kinds="ino")
        self.assertEqual(self.gates(spec, style="atomic"), (None, ("atomic", ("1--",)), ("atomic", ("-1-",))))
        self.assertEqual(self.gates(spec, style="latch"),
                         (None, ("latch", ("1--",), ("0--",)), ("latch", ("-1-",), ("-0-",))))
        self.assertEqual(self.gates(spec), (None, ("c", 4, 6), ("c", 8, 10), ("and", "1--"), ("or", (3,)),
                                            ("and", "0--"), ("or", (5,)), ("and", "-1-"), ("or", (7,)),
                                            ("and", "-0-"), ("or", (9,))))

    def test_a_driven_signal_before_an_input(self):
        spec = ring("a+ b+ a- b-", kinds="oi")
        self.assertEqual(self.gates(spec), (("c", 3, 5), None, ("and", "-0"), ("or", (2,)), ("and", "-1"), ("or", (4,))))

    def test_several_regions(self):
        self.assertEqual(self.gates(TWICE), (None, ("c", 5, 8), None, ("and", "1-0"), ("and", "1-1"), ("or", (3, 4)),
                                             ("and", "010"), ("and", "011"), ("or", (6, 7))))
        self.assertEqual(self.gates(TWICE, style="atomic"), (None, ("atomic", ("1--",)), None))
        self.assertEqual(self.gates(TWICE, style="latch"), (None, ("latch", ("1--",), ("0--",)), None))

    def test_a_cover_that_does_not_exist(self):
        graph = explore(EITHER)
        self.assertIsNone(monotonous_cover(graph, (2, 1)))
        self.assertEqual(self.gates(EITHER), (None, None, ("atomic", ("-1--", "1---")), ("c", 5, 6), ("and", "--1-"),
                                              ("or", (4,)), ("or", ())))
        self.assertEqual(self.gates(EITHER, style="latch")[2:],
                         (("latch", ("-1--", "1---"), ()), ("latch", ("--1-",), ())))

    def test_the_cover_of_one_edge_is_not_enough(self):
        # The code of the two regions of the falling edge is the same; the rising edge has a cover.
        spec = machine(["1", "0", "1"], [(0, 1), (1, 2), (2, 1)], kinds="o")
        self.assertEqual(monotonous_cover(explore(spec), (0, 1)), ["0"])
        self.assertEqual(self.gates(spec), (("atomic", ("0",)),))
        spec = machine(["0", "1", "0"], [(0, 1), (1, 2), (2, 1)], kinds="o")
        self.assertEqual(monotonous_cover(explore(spec), (0, 0)), ["1"])
        self.assertEqual(self.gates(spec), (("atomic", ("0",)),))

    def test_a_signal_without_edges(self):
        for value, cubes in ((0, ()), (1, ("-",))):
            spec = parse_spec(f"signal a output {value}\nplaces 0")
            self.assertEqual(self.gates(spec), (("c", 1, 2), ("or", ()), ("or", ())))
            self.assertEqual(self.gates(spec, style="latch"), (("latch", (), ()),))
            self.assertEqual(self.gates(spec, style="atomic"), (("atomic", cubes),))

    def test_an_edge_without_a_region(self):
        spec = parse_spec("signal a input 0\nsignal b output 0\nplaces 3 0\na+ 0 to 1\nb+ 1 to 2")
        self.assertEqual(self.gates(spec), (None, ("c", 3, 4), ("and", "1-"), ("or", (2,)), ("or", ())))

    def test_no_driven_signals(self):
        for style in ("atomic", "latch", "split"):
            self.assertEqual(self.gates(ring("a+ b+ a- b-", kinds="ii"), style=style), (None, None))
            self.assertEqual(self.gates(parse_spec("places 0"), style=style), ())

    def test_the_graph_stays_as_it_was(self):
        graph = explore(TWICE)
        before = (list(graph), [graph.arcs(state) for state in range(len(graph))])
        for style in ("atomic", "latch", "split"):
            build(graph, style=style)
        self.assertEqual((list(graph), [graph.arcs(state) for state in range(len(graph))]), before)

    def test_against_the_words_of_the_document(self):
        seen = {}
        for graph in implementable_graphs():
            for style in ("atomic", "latch", "split"):
                lines = self.reference(graph, style)
                for line in lines:
                    kind = line.split(" ")[2]
                    seen[style, kind] = seen.get((style, kind), 0) + 1
                text = format_netlist(build(graph, style=style))
                self.assertEqual([line for line in text.split("\n") if line.startswith("gate")], lines)
        for key in (("atomic", "atomic"), ("latch", "latch"), ("split", "c"), ("split", "atomic"), ("split", "and")):
            self.assertGreater(seen[key], 3)

    def reference(self, graph, style):
        """The lines of the gates."""
        lines, inner, wire = [], [], len(graph.spec)
        for signal in graph.spec.driven:
            covers = [monotonous_cover(graph, (signal, value)) for value in (1, 0)]
            if style == "latch":
                parts = [compact_cover(*function(graph, signal)) for function in (set_function, reset_function)]
                lines.append(" ".join([f"gate {signal} latch", *parts[0], "to", *parts[1]]))
            elif style == "atomic" or None in covers:
                lines.append(" ".join([f"gate {signal} atomic", *compact_cover(*next_function(graph, signal))]))
            else:
                ends = []
                for cover in covers:
                    inner += [f"gate {wire + k} and {cube}" for k, cube in enumerate(cover)]
                    inner.append(" ".join([f"gate {wire + len(cover)} or", *(str(wire + k) for k in range(len(cover)))]))
                    wire += len(cover) + 1
                    ends.append(str(wire - 1))
                lines.append(f"gate {signal} c " + " ".join(ends))
        return lines + inner
