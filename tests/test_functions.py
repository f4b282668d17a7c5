"""Point 38: the next, set and reset functions of driven signals."""

import unittest

from clockless.checks import conflicts
from clockless.functions import next_function, reset_function, set_function
from clockless.graphs import explore
from clockless.spectext import parse_spec
from tests.samples import HANDSHAKE, machine, random_loop, random_machines, ring


class Functions(unittest.TestCase):
    def test_a_handshake(self):
        graph = explore(parse_spec(HANDSHAKE))
        self.assertEqual(next_function(graph, 1), (["10", "11"], ["00", "01"]))
        self.assertEqual(set_function(graph, 1), (["10"], ["00", "01"]))
        self.assertEqual(reset_function(graph, 1), (["01"], ["10", "11"]))

    def test_several_driven_signals(self):
        graph = explore(ring("a+ b+ c+ a- b- c-", kinds="ino"))
        self.assertEqual([code for _, code in graph], ["000", "100", "110", "111", "011", "001"])
        self.assertEqual(next_function(graph, 1), (["100", "110", "111"], ["000", "001", "011"]))
        self.assertEqual(set_function(graph, 1), (["100"], ["000", "001", "011"]))
        self.assertEqual(reset_function(graph, 1), (["011"], ["100", "110", "111"]))
        self.assertEqual(next_function(graph, 2), (["011", "110", "111"], ["000", "001", "100"]))
        self.assertEqual(set_function(graph, 2), (["110"], ["000", "001", "100"]))
        self.assertEqual(reset_function(graph, 2), (["001"], ["011", "110", "111"]))

    def test_several_states_of_one_code(self):
        # The two rounds through the codes differ in their states only.
        codes = ["00", "10", "11", "01", "00", "10", "11", "01"]
        graph = explore(machine(codes, [(k, (k + 1) % 8) for k in range(8)], kinds="io"))
        self.assertEqual((len(graph), conflicts(graph)), (8, []))
        self.assertEqual(next_function(graph, 1), (["10", "11"], ["00", "01"]))
        self.assertEqual(set_function(graph, 1), (["10"], ["00", "01"]))
        self.assertEqual(reset_function(graph, 1), (["01"], ["10", "11"]))

    def test_a_signal_that_never_changes(self):
        graph = explore(parse_spec("signal a input 0\nsignal b output 1\nplaces 2 0\na+ 0 to 1\na- 1 to 0"))
        self.assertEqual(next_function(graph, 1), (["01", "11"], []))
        self.assertEqual(set_function(graph, 1), ([], []))
        self.assertEqual(reset_function(graph, 1), ([], ["01", "11"]))

    def test_a_signal_that_changes_all_the_time(self):
        graph = explore(machine(["0", "1"], [(0, 1), (1, 0)], kinds="o"))
        self.assertEqual(next_function(graph, 0), (["0"], ["1"]))
        self.assertEqual(set_function(graph, 0), (["0"], ["1"]))
        self.assertEqual(reset_function(graph, 0), (["1"], ["0"]))

    def test_returned_lists_are_new(self):
        graph = explore(parse_spec(HANDSHAKE))
        for function in (next_function, set_function, reset_function):
            expected = function(graph, 1)
            expected = (list(expected[0]), list(expected[1]))
            on, off = function(graph, 1)
            on.append("00")
            off.clear()
            self.assertEqual(function(graph, 1), expected)
            self.assertIsInstance(function(graph, 1), tuple)

    def test_against_the_words_of_the_document(self):
        coded = 0
        for seed in range(600):
            graph = explore(random_machines(seed) if seed < 300 else random_loop(seed))
            if conflicts(graph):
                continue
            for signal in graph.spec.driven:
                coded += 1
                names = [self.phase(graph, state, signal) for state in range(len(graph))]
                self.assertEqual(next_function(graph, signal), self.lists(graph, names, ["rising", "high"],
                                                                          ["falling", "low"]))
                self.assertEqual(set_function(graph, signal), self.lists(graph, names, ["rising"], ["low", "falling"]))
                self.assertEqual(reset_function(graph, signal), self.lists(graph, names, ["falling"],
                                                                           ["high", "rising"]))
                for function in (next_function, set_function, reset_function):
                    on, off = function(graph, signal)
                    self.assertEqual(set(on) & set(off), set())
        self.assertGreater(coded, 100)

    def phase(self, graph, state, signal):
        edges = [graph.spec.edges[transition] for transition, _ in graph.arcs(state)]
        if (signal, 1) in edges:
            return "rising"
        if (signal, 0) in edges:
            return "falling"
        return {"1": "high", "0": "low"}[graph.code(state)[signal]]

    def lists(self, graph, names, on, off):
        return tuple(sorted({graph.code(state) for state in range(len(graph)) if names[state] in wanted})
                     for wanted in (on, off))
