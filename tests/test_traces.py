"""Points 20 and 21: traces and views."""

import itertools
import unittest

from clockless.graphs import explore
from clockless.spectext import parse_spec
from clockless.traces import follow, trace_of, view
from tests.samples import HANDSHAKE, random_machines

# After a+ there are two states, after b+ there is one again; c+ is only reached by way of place 2.
TWO_WAYS = "\n".join([
    "signal a output 0", "signal b output 0", "signal c output 0", "places 5 0",
    "a+ 0 to 2", "a+/2 0 to 1", "b+ 1 to 3", "b+/2 2 to 3", "c+ 2 to 4",
])


class TraceOf(unittest.TestCase):
    def test_edges_in_order(self):
        spec = parse_spec(TWO_WAYS)
        self.assertEqual(trace_of(spec, []), [])
        self.assertEqual(trace_of(spec, [0, 3]), [(0, 1), (1, 1)])
        self.assertEqual(trace_of(spec, [1, 2]), [(0, 1), (1, 1)])
        self.assertEqual(trace_of(spec, [4, 4, 0]), [(2, 1), (2, 1), (0, 1)])

    def test_the_sequence_is_not_changed(self):
        sequence = [0, 1]
        trace_of(parse_spec(HANDSHAKE), sequence).append("later")
        self.assertEqual(sequence, [0, 1])


class Follow(unittest.TestCase):
    def test_the_empty_trace(self):
        self.assertEqual(follow(explore(parse_spec(TWO_WAYS)), []), [0])
        self.assertEqual(follow(explore(parse_spec("places 0")), []), [0])

    def test_several_sequences_and_several_states(self):
        graph = explore(parse_spec(TWO_WAYS))
        self.assertEqual(follow(graph, [(0, 1)]), [1, 2])
        self.assertEqual(follow(graph, [(0, 1), (1, 1)]), [graph.state_at((3,), "110")])
        self.assertEqual(follow(graph, [(0, 1), (2, 1)]), [graph.state_at((4,), "101")])

    def test_traces_that_are_not_followed(self):
        graph = explore(parse_spec(TWO_WAYS))
        for trace in ([(0, 0)], [(1, 1)], [(0, 1), (0, 1)], [(0, 1), (2, 1), (1, 1)], [(1, 1), (0, 1)]):
            self.assertEqual(follow(graph, trace), [])

    def test_round_and_round(self):
        graph = explore(parse_spec(HANDSHAKE))
        lap = [(0, 1), (1, 1), (0, 0), (1, 0)]
        self.assertEqual(follow(graph, lap * 50), [0])
        self.assertEqual(follow(graph, lap * 50 + lap[:2]), [2])
        self.assertEqual(follow(graph, lap * 50 + lap[1:2]), [])

    def test_the_trace_is_not_changed(self):
        graph = explore(parse_spec(HANDSHAKE))
        trace = [(0, 1), (1, 1)]
        follow(graph, trace).append(7)
        self.assertEqual(trace, [(0, 1), (1, 1)])
        self.assertEqual(follow(graph, trace), [2])

    def test_against_all_firing_sequences(self):
        for seed in range(150):
            graph = explore(random_machines(seed))
            reached = self.reached(graph, 3)
            edges = sorted(set(graph.spec.edges))
            for length in range(4):
                for trace in itertools.product(edges, repeat=length):
                    self.assertEqual(follow(graph, list(trace)), sorted(reached.get(trace, set())))

    def reached(self, graph, most):
        """For each trace of at most so many edges the states it leads to."""
        reached = {(): {0}}
        level = {((), 0)}
        for _ in range(most):
            level = {(trace + (graph.spec.edges[transition],), after)
                     for trace, state in level for transition, after in graph.arcs(state)}
            for trace, state in level:
                reached.setdefault(trace, set()).add(state)
        return reached


class View(unittest.TestCase):
    TRACE = [(0, 1), (1, 1), (0, 0), (2, 1), (1, 0), (0, 1)]

    def test_no_signals_and_all(self):
        self.assertEqual(view(self.TRACE, signals=[]), [])
        self.assertEqual(view(self.TRACE, signals=()), [])
        self.assertEqual(view(self.TRACE, signals=[0, 1, 2]), self.TRACE)
        self.assertEqual(view([], signals=[0]), [])

    def test_some_signals(self):
        self.assertEqual(view(self.TRACE, signals=[0]), [(0, 1), (0, 0), (0, 1)])
        self.assertEqual(view(self.TRACE, signals=(1,)), [(1, 1), (1, 0)])
        self.assertEqual(view(self.TRACE, signals=(2, 1)), [(1, 1), (2, 1), (1, 0)])
        self.assertEqual(view(self.TRACE, signals=[5]), [])

    def test_the_trace_is_not_changed(self):
        trace, signals = list(self.TRACE), [0, 1, 2]
        view(trace, signals=signals).clear()
        self.assertEqual((trace, signals), (self.TRACE, [0, 1, 2]))

    def test_the_signals_are_passed_by_keyword(self):
        with self.assertRaises(TypeError):
            view(self.TRACE, [0])
