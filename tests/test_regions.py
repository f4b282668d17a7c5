"""Points 34 and 35: phases of signals and regions of edges."""

import unittest

from clockless.graphs import explore
from clockless.regions import phase, regions
from clockless.spectext import parse_spec
from tests.samples import HANDSHAKE, machine, random_loop, random_machines


def graph_of(codes, arcs, kinds):
    """The graph of a machine whose states have the numbers of its places."""
    graph = explore(machine(codes, arcs, kinds=kinds))
    assert [marking for marking, _ in graph] == [(place,) for place in range(len(codes))]
    return graph


def phases(graph, signal):
    return [phase(graph, state, signal) for state in range(len(graph))]


class Phases(unittest.TestCase):
    def test_an_input_and_a_driven_signal(self):
        graph = explore(parse_spec(HANDSHAKE))
        self.assertEqual(phases(graph, 0), ["rising", "high", "falling", "low"])
        self.assertEqual(phases(graph, 1), ["low", "rising", "high", "falling"])

    def test_the_kind_does_not_matter(self):
        for kinds in ("oi", "nn", "ii", "on"):
            graph = graph_of(["00", "10", "11", "01"], [(0, 1), (1, 2), (2, 3), (3, 0)], kinds)
            self.assertEqual(phases(graph, 0), ["rising", "high", "falling", "low"])
            self.assertEqual(phases(graph, 1), ["low", "rising", "high", "falling"])

    def test_an_edge_of_several_transitions(self):
        codes = ["00", "10", "10", "00", "11"]
        arcs = [(0, 1), (0, 2), (1, 3), (2, 4), (1, 4), (2, 3)]
        graph = graph_of(codes, arcs, "io")
        self.assertEqual([graph.arcs(0), graph.arcs(1)], [[(0, 1), (1, 2)], [(2, 3), (4, 4)]])
        self.assertEqual(phases(graph, 0), ["rising", "falling", "falling", "low", "high"])
        self.assertEqual(phases(graph, 1), ["low", "rising", "rising", "low", "high"])

    def test_signals_side_by_side(self):
        graph = explore(parse_spec("signal a output 0\nsignal b inner 1\nplaces 2 0 1\na+ 0 to\nb- 1 to"))
        self.assertEqual([code for _, code in graph], ["01", "11", "00", "10"])
        self.assertEqual(phases(graph, 0), ["rising", "high", "rising", "high"])
        self.assertEqual(phases(graph, 1), ["falling", "falling", "low", "low"])

    def test_a_signal_without_edges(self):
        graph = explore(parse_spec("signal a output 0\nsignal b output 1\nplaces 0"))
        self.assertEqual([phase(graph, 0, 0), phase(graph, 0, 1)], ["low", "high"])

    def test_against_the_words_of_the_document(self):
        for seed in range(200):
            graph = explore(random_machines(seed))
            for state in range(len(graph)):
                edges = [graph.spec.edges[transition] for transition, _ in graph.arcs(state)]
                for signal in range(len(graph.spec)):
                    still = "high" if graph.code(state)[signal] == "1" else "low"
                    moving = {1: "rising", 0: "falling"}
                    expected = [moving[value] for changing, value in edges if changing == signal] or [still]
                    self.assertEqual([phase(graph, state, signal)], sorted(set(expected)))


class Regions(unittest.TestCase):
    def test_none_and_one(self):
        graph = explore(parse_spec(HANDSHAKE))
        self.assertEqual([regions(graph, (1, 1)), regions(graph, (1, 0))], [[[1]], [[3]]])
        self.assertEqual([regions(graph, (0, 1)), regions(graph, (0, 0))], [[[0]], [[2]]])
        graph = explore(parse_spec("signal a output 0\nplaces 1 0\na+ 0 to"))
        self.assertEqual([regions(graph, (0, 1)), regions(graph, (0, 0))], [[[0]], []])
        self.assertEqual(regions(explore(parse_spec("signal a output 0\nplaces 0")), (0, 1)), [])

    def test_an_edge_that_no_state_enables(self):
        graph = explore(parse_spec("signal a output 0\nsignal b output 0\nplaces 2 0\na+ 0 to\nb+ 1 to"))
        self.assertEqual(regions(graph, (1, 1)), [])

    def test_several_in_the_order_of_their_smallest_states(self):
        # b can rise in 2, 3 and 4; an arc joins 2 and 4, and 3 stands alone.
        codes = ["0000", "1000", "1010", "1001", "1011", "1110", "1101", "1111"]
        graph = graph_of(codes, [(0, 1), (1, 2), (1, 3), (2, 4), (2, 5), (3, 6), (4, 7)], "ioii")
        self.assertEqual(regions(graph, (1, 1)), [[2, 4], [3]])
        self.assertEqual(regions(graph, (2, 1)), [[1]])
        self.assertEqual(regions(graph, (3, 1)), [[1, 2]])

    def test_linked_only_in_the_other_direction(self):
        # c can rise in 1 and 4, and the only arc between them leads from 4 to 1.
        codes = ["000", "100", "010", "101", "110", "111"]
        graph = graph_of(codes, [(0, 1), (0, 2), (1, 3), (2, 4), (4, 1), (4, 5)], "iio")
        self.assertEqual([graph.edges(1), graph.edges(4)], [[(2, 1)], [(1, 0), (2, 1)]])
        self.assertEqual(regions(graph, (2, 1)), [[1, 4]])

    def test_a_chain_of_several_links(self):
        # 1 and 3, 3 and 2, 2 and 5 are linked; the arcs lead in both directions along the chain.
        codes = ["0000", "1000", "0010", "1010", "1100", "0011", "0110", "1110", "0111"]
        arcs = [(0, 1), (0, 2), (1, 3), (1, 4), (2, 3), (2, 5), (2, 6), (3, 7), (5, 8)]
        graph = graph_of(codes, arcs, "ioii")
        self.assertEqual(regions(graph, (1, 1)), [[1, 2, 3, 5]])
        # Without the arc from 2 to 3, the chain falls apart.
        arcs.remove((2, 3))
        self.assertEqual(regions(graph_of(codes, arcs, "ioii"), (1, 1)), [[1, 3], [2, 5]])

    def test_a_link_through_a_state_without_the_edge_does_not_count(self):
        codes = ["00", "10", "00", "10", "11"]
        graph = graph_of(codes, [(0, 1), (1, 2), (2, 3), (3, 4)], "oo")
        self.assertEqual(regions(graph, (0, 1)), [[0], [2]])

    def test_returned_lists_are_new(self):
        graph = explore(parse_spec(HANDSHAKE))
        first = regions(graph, (1, 1))
        first[0].append(7)
        first.append([8])
        self.assertEqual(regions(graph, (1, 1)), [[1]])

    def test_against_the_words_of_the_document(self):
        several = 0
        for seed in range(400):
            graph = explore(random_machines(seed) if seed < 200 else random_loop(seed))
            for edge in sorted(set(graph.spec.edges)):
                expected = self.reference(graph, edge)
                several += len(expected) > 1
                self.assertEqual(regions(graph, edge), expected)
        self.assertGreater(several, 50)

    def reference(self, graph, edge):
        """Sets of one state that are joined as long as a link joins two of them."""
        parts = [{state} for state in range(len(graph)) if edge in graph.edges(state)]
        for state in range(len(graph)):
            for _, target in graph.arcs(state):
                touched = [part for part in parts if part & {state, target}]
                if len(touched) == 2 and all(edge in graph.edges(end) for end in (state, target)):
                    parts = [part for part in parts if part not in touched] + [touched[0] | touched[1]]
        return sorted(sorted(part) for part in parts)
