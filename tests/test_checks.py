"""Points 22 to 27: deterministic, persistent and coded graphs, and the check."""

import unittest

from clockless.checks import check, conflicts, disabling, driven_excited, is_implementable, nondeterminism
from clockless.errors import CodeConflict, NotPersistent, Nondeterministic
from clockless.graphs import explore
from clockless.spectext import parse_spec
from tests.samples import HANDSHAKE, chains_spec, random_machines

# The circuit cannot see whether a has risen once.
PULSES = "\n".join([
    "signal a input 0", "signal b output 0", "places 6 0",
    "a+ 0 to 1", "a- 1 to 2", "b+ 2 to 3", "a+/2 3 to 4", "a-/2 4 to 5", "b- 5 to 0",
])


def graph_of(*lines):
    return explore(parse_spec("\n".join(lines)))


def signals(text):
    """Lines of signals: "i" for an input, "o" for an output, "n" for an inner signal."""
    kinds = {"i": "input", "o": "output", "n": "inner"}
    return [f"signal {name} {kinds[kind]} 0" for name, kind in zip("abcdefgh", text)]


class Deterministic(unittest.TestCase):
    def test_no_two_arcs_with_one_edge(self):
        self.assertIsNone(nondeterminism(graph_of(HANDSHAKE)))
        self.assertIsNone(nondeterminism(graph_of("places 0")))

    def test_one_edge_to_one_state(self):
        self.assertIsNone(nondeterminism(graph_of(*signals("o"), "places 2 0", "a+ 0 to 1", "a+/2 0 to 1")))

    def test_different_edges_to_different_states(self):
        self.assertIsNone(nondeterminism(graph_of(*signals("ii"), "places 3 0", "a+ 0 to 1", "b+ 0 to 2")))

    def test_the_smallest_is_told(self):
        graph = graph_of(*signals("ii"), "places 7 0", "b+ 0 to 1", "a+ 1 to 2", "a+/2 1 to 2", "a+/3 1 to 3",
                         "a+/4 1 to 4", "b- 3 to 5", "b-/2 3 to 6", "b-/3 2 to 5", "b-/4 2 to 6")
        self.assertEqual(nondeterminism(graph), (1, 1, 3))

    def test_the_smallest_state_and_not_the_smallest_transition(self):
        graph = graph_of(*signals("ii"), "places 6 0", "b+ 1 to 2", "b+/2 1 to 3", "a+ 0 to 1", "a+/2 0 to 4")
        self.assertEqual(nondeterminism(graph), (0, 2, 3))

    def test_the_first_transition_may_have_a_twin(self):
        graph = graph_of(*signals("ii"), "places 4 0", "a+ 0 to 1", "b+ 0 to 1", "b+/2 0 to 3", "a+/2 0 to 2")
        self.assertEqual(nondeterminism(graph), (0, 0, 3))


class Persistent(unittest.TestCase):
    def test_nothing_is_disabled(self):
        self.assertIsNone(disabling(graph_of(HANDSHAKE)))
        self.assertIsNone(disabling(graph_of("places 0")))
        self.assertIsNone(disabling(explore(chains_spec([3, 3]))))

    def test_two_inputs_may_disable_each_other(self):
        self.assertIsNone(disabling(graph_of(*signals("ii"), "places 3 0", "a+ 0 to 1", "b+ 0 to 2")))

    def test_all_other_pairs_may_not(self):
        for kinds in ("oo", "on", "no", "nn", "io", "oi", "in", "ni"):
            with self.subTest(kinds):
                graph = graph_of(*signals(kinds), "places 3 0", "a+ 0 to 1", "b+ 0 to 2")
                self.assertEqual(disabling(graph), (0, 0, 1))

    def test_one_of_two_is_disabled(self):
        # After b+ there is another a+, but after a+ there is no b+.
        for kinds in ("oo", "io", "oi"):
            graph = graph_of(*signals(kinds), "places 3 0 1", "a+ 0 1 to", "b+ 1 to 2", "a+/2 0 2 to")
            self.assertEqual(disabling(graph), (0, 1, 0))

    def test_the_edge_may_stay_by_another_transition(self):
        graph = graph_of(*signals("oo"), "places 4 0", "a+ 0 to 1", "b+ 0 to 2", "b+/2 1 to 3", "a+/2 2 to 3")
        self.assertIsNone(disabling(graph))
        graph = graph_of(*signals("oo"), "places 5 0", "a+ 0 to 1", "b+ 0 to 2", "b+/2 1 to 3", "a+/2 4 to 3")
        self.assertEqual(disabling(graph), (0, 0, 1))
        graph = graph_of(*signals("oo"), "places 5 0", "a+ 0 to 1", "b+ 0 to 2", "b+/2 4 to 3", "a+/2 2 to 3")
        self.assertEqual(disabling(graph), (0, 1, 0))

    def test_another_edge_of_the_signal_does_not_do(self):
        graph = graph_of("signal a output 0", "signal b output 1", "places 4 0",
                         "a+ 0 to 1", "b- 0 to 2", "b-/2 1 to 3", "b+ 2 to 3")
        self.assertEqual(disabling(graph), (0, 0, 1))

    def test_transitions_with_one_edge_may_disable_each_other(self):
        self.assertIsNone(disabling(graph_of(*signals("o"), "places 3 0", "a+ 0 to 1", "a+/2 0 to 2")))

    def test_the_smallest_is_told(self):
        # State 0 has no fault. In state 1, 1 is disabled by 3 and 4, and they by 1; 2 stands aside.
        graph = graph_of(*signals("ioooo"), "places 5 0", "a+ 0 to 1 2", "b+ 1 to 3", "c+ 2 to", "d+ 1 to 4",
                         "e+ 1 to 3")
        self.assertEqual(disabling(graph), (1, 1, 3))

    def test_the_smallest_disabled_and_not_the_smallest_disabling(self):
        graph = graph_of(*signals("ooo"), "places 5 0 1 2", "a+ 0 1 2 to", "b+ 2 to 3", "c+ 1 to 4", "a+/2 0 1 3 to",
                         "a+/3 0 2 4 to", "a+/4 0 3 4 to")
        self.assertEqual(disabling(graph), (0, 1, 0))

    def test_inputs_that_choose_beside_an_output(self):
        graph = graph_of(*signals("iio"), "places 4 0 1", "a+ 0 to 2", "b+ 0 to 3", "c+ 0 1 to 3")
        self.assertEqual(disabling(graph), (0, 0, 2))


class Coded(unittest.TestCase):
    def test_different_driven_signals(self):
        graph = graph_of(PULSES)
        self.assertEqual(conflicts(graph), [(0, 2), (3, 5)])
        self.assertEqual([driven_excited(graph, state) for state in range(6)], [(), (), (1,), (), (), (1,)])

    def test_excited_inputs_do_not_matter(self):
        graph = graph_of(*signals("ii"), "places 4 0", "a+ 0 to 1", "a- 1 to 2", "b+ 2 to 3", "b- 3 to 0")
        self.assertEqual((graph.code(0), graph.code(2)), ("00", "00"))
        self.assertEqual(conflicts(graph), [])
        self.assertEqual(driven_excited(graph, 0), ())

    def test_equal_codes_with_the_same_driven_signals(self):
        graph = graph_of(*signals("io"), "places 7 0", "a+ 0 to 1", "b+ 1 to 2", "a- 2 to 3", "b- 3 to 4",
                         "a+/2 4 to 5", "b+/2 5 to 6")
        self.assertEqual((graph.code(1), graph.code(5)), ("10", "10"))
        self.assertEqual(driven_excited(graph, 1), (1,))
        self.assertEqual(driven_excited(graph, 5), (1,))
        self.assertEqual((graph.code(2), graph.code(6)), ("11", "11"))
        self.assertEqual(conflicts(graph), [])

    def test_several_of_one_code(self):
        graph = graph_of(*signals("iio"), "places 8 0", "a+ 0 to 1", "a- 1 to 2", "b+ 2 to 3", "b- 3 to 4",
                         "c+ 4 to 5")
        self.assertEqual([state for state in range(6) if graph.code(state) == "000"], [0, 2, 4])
        self.assertEqual(conflicts(graph), [(0, 4), (2, 4)])

    def test_ascending_across_codes(self):
        graph = graph_of(*signals("oon"), "places 9 0", "a+ 0 to 1", "b+ 1 to 2", "a- 2 to 3", "b- 3 to 4",
                         "b+/2 4 to 5", "a+/2 5 to 6", "c+ 6 to 7")
        self.assertEqual(conflicts(graph), [(0, 4), (2, 6), (3, 5)])

    def test_driven_signals_that_are_excited(self):
        graph = graph_of(*signals("nioo"), "places 4 0 1 2 3", "d+ 3 to", "b+ 1 to", "a+ 0 to", "c+ 2 to")
        self.assertEqual(driven_excited(graph, 0), (0, 2, 3))
        self.assertIsInstance(driven_excited(graph, 0), tuple)
        state = graph.after(0, (2, 1))[0]
        self.assertEqual(driven_excited(graph, state), (0, 3))

    def test_inner_signals_count(self):
        graph = graph_of(*signals("in"), "places 4 0", "a+ 0 to 1", "a- 1 to 2", "b+ 2 to 3")
        self.assertEqual(conflicts(graph), [(0, 2)])

    def test_returned_lists_are_new(self):
        graph = graph_of(PULSES)
        conflicts(graph).clear()
        self.assertEqual(conflicts(graph), [(0, 2), (3, 5)])


class Check(unittest.TestCase):
    def fields(self, graph, error, **coded):
        with self.assertRaises(error) as caught:
            check(graph, **coded)
        self.assertFalse(is_implementable(graph))
        return vars(caught.exception)

    def test_implementable(self):
        for text in (HANDSHAKE, "places 0"):
            self.assertIsNone(check(graph_of(text)))
            self.assertIsNone(check(graph_of(text), coded=False))
            self.assertTrue(is_implementable(graph_of(text)) is True)

    def test_nondeterministic(self):
        graph = graph_of(*signals("io"), "places 4 0", "a+ 0 to 1", "b+ 1 to 2", "b+/2 1 to 3")
        self.assertEqual(self.fields(graph, Nondeterministic), {"sequence": [0], "first": 1, "second": 2})
        self.assertEqual(self.fields(graph, Nondeterministic, coded=False),
                         {"sequence": [0], "first": 1, "second": 2})

    def test_not_persistent(self):
        graph = graph_of(*signals("ioo"), "places 4 0", "a+ 0 to 1", "b+ 1 to 2", "c+ 1 to 3")
        self.assertEqual(self.fields(graph, NotPersistent), {"sequence": [0], "disabled": 1, "by": 2})
        self.assertEqual(self.fields(graph, NotPersistent, coded=False), {"sequence": [0], "disabled": 1, "by": 2})

    def test_not_coded(self):
        graph = graph_of(PULSES)
        self.assertEqual(self.fields(graph, CodeConflict), {"first": [], "second": [0, 1]})
        self.assertEqual(self.fields(graph, CodeConflict, coded=True), {"first": [], "second": [0, 1]})
        self.assertIsNone(check(graph, coded=False))
        self.assertTrue(is_implementable(graph) is False)

    def test_the_paths_of_both_states(self):
        graph = graph_of(*signals("iio"), "places 8 0", "b+ 0 to 1", "a+ 1 to 2", "a- 2 to 3", "c+ 3 to 4")
        self.assertEqual(self.fields(graph, CodeConflict), {"first": [0], "second": [0, 1, 2]})

    def test_nondeterminism_comes_first(self):
        # States 0 and 2 have one code; in state 2 the outputs disable each other; so do later the two ways of b-.
        lines = [*signals("ioo"), "places 9 0", "a+ 0 to 1", "a- 1 to 2", "b+ 2 to 3", "c+ 2 to 4"]
        graph = graph_of(*lines)
        self.assertEqual(conflicts(graph), [(0, 2)])
        self.assertEqual(self.fields(graph, NotPersistent), {"sequence": [0, 1], "disabled": 2, "by": 3})
        graph = graph_of(*lines, "b- 3 to 5", "b-/2 3 to 6")
        self.assertEqual(disabling(graph), (2, 2, 3))
        self.assertEqual(self.fields(graph, Nondeterministic), {"sequence": [0, 1, 2], "first": 4, "second": 5})

    def test_coded_is_passed_by_keyword(self):
        with self.assertRaises(TypeError):
            check(graph_of(HANDSHAKE), False)


class Reference(unittest.TestCase):
    """All faults of a graph, straight from the words of points 22 to 26."""

    def splits(self, graph):
        edges = graph.spec.edges
        return [(state, first, second) for state in range(len(graph))
                for first, one in graph.arcs(state) for second, other in graph.arcs(state)
                if first < second and edges[first] == edges[second] and one != other]

    def disabled(self, graph):
        spec = graph.spec
        kinds = [spec.signals[signal][1] for signal, _ in spec.edges]
        return [(state, first, second) for state in range(len(graph))
                for first, _ in graph.arcs(state) for second, after in graph.arcs(state)
                if spec.edges[first] != spec.edges[second]
                and (kinds[first], kinds[second]) != ("input", "input")
                and spec.edges[first] not in [spec.edges[third] for third, _ in graph.arcs(after)]]

    def mixed(self, graph):
        spec = graph.spec
        seen = [{signal for signal, _ in graph.edges(state) if spec.signals[signal][1] != "input"}
                for state in range(len(graph))]
        return [(first, second) for first in range(len(graph)) for second in range(first + 1, len(graph))
                if graph.code(first) == graph.code(second) and seen[first] != seen[second]]

    def test_against_all_faults(self):
        found = {}
        for seed in range(1500):
            graph = explore(random_machines(seed))
            splits, disabled, mixed = self.splits(graph), self.disabled(graph), self.mixed(graph)
            with self.subTest(seed):
                self.assertEqual(nondeterminism(graph), min(splits, default=None))
                self.assertEqual(disabling(graph), min(disabled, default=None))
                self.assertEqual(conflicts(graph), mixed)
                self.assertEqual(is_implementable(graph), not splits and not disabled and not mixed)
            kind = (len(splits) > 0, len(disabled) > 0, len(mixed) > 0)
            found[kind] = found.get(kind, 0) + 1
        self.assertTrue(len(found) >= 6, found)
