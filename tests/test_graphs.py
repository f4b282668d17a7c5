"""Points 16 to 19: states, the state graph, the order of exploring, and its faults."""

import unittest

from clockless.errors import ClocklessError, Inconsistent, TooLarge, Unsafe
from clockless.graphs import StateGraph, explore
from clockless.nets import Net
from clockless.specs import Spec
from clockless.spectext import parse_spec
from tests.samples import HANDSHAKE, Fault, chains_spec, random_machines, random_spec, reference_exploration

# a+ forks into b+ and c+, which happen in any order; then a- joins them.
FORK = "\n".join([
    "signal a input 0", "signal b output 0", "signal c inner 0", "places 5 0",
    "a+ 0 to 1 2", "b+ 1 to 3", "c+ 2 to 4", "a- 3 4 to",
])

# The environment chooses between a+ and b+; both paths meet again.
CHOICE = "\n".join([
    "signal a input 0", "signal b input 0", "signal c output 0", "places 7 0",
    "b+ 0 to 1", "a+ 0 to 2", "c+ 2 to 3", "c+/2 1 to 4", "a- 3 to 5", "b- 4 to 5", "c- 5 to 0",
])

# Two transitions of one edge, and two ways to one state.
DOUBLE = "\n".join([
    "signal a output 0", "signal b output 0", "places 4 0",
    "a+ 0 to 1", "a+/2 0 to 2", "b+ 1 to 3", "b+/2 2 to 3",
])


class Numbers(unittest.TestCase):
    def test_a_fork(self):
        graph = explore(parse_spec(FORK))
        self.assertEqual(list(graph), [((0,), "000"), ((1, 2), "100"), ((2, 3), "110"), ((1, 4), "101"),
                                       ((3, 4), "111"), ((), "011")])
        self.assertEqual([graph.path(k) for k in range(6)],
                         [[], [0], [0, 1], [0, 2], [0, 1, 2], [0, 1, 2, 3]])
        self.assertEqual([graph.arcs(k) for k in range(6)],
                         [[(0, 1)], [(1, 2), (2, 3)], [(2, 4)], [(1, 4)], [(3, 5)], []])
        self.assertEqual([graph.arcs_into(k) for k in range(6)],
                         [[], [(0, 0)], [(1, 1)], [(1, 2)], [(2, 2), (3, 1)], [(4, 3)]])
        self.assertEqual([graph.edges(k) for k in range(6)],
                         [[(0, 1)], [(1, 1), (2, 1)], [(2, 1)], [(1, 1)], [(0, 0)], []])

    def test_a_choice(self):
        graph = explore(parse_spec(CHOICE))
        self.assertEqual(list(graph), [((0,), "000"), ((1,), "010"), ((2,), "100"), ((4,), "011"), ((3,), "101"),
                                       ((5,), "001")])
        self.assertEqual([graph.path(k) for k in range(6)], [[], [0], [1], [0, 3], [1, 2], [0, 3, 5]])
        self.assertEqual(graph.arcs(0), [(0, 1), (1, 2)])
        self.assertEqual(graph.edges(0), [(0, 1), (1, 1)])
        self.assertEqual(graph.arcs_into(0), [(5, 6)])
        self.assertEqual(graph.arcs_into(5), [(3, 5), (4, 4)])

    def test_two_transitions_of_one_edge(self):
        graph = explore(parse_spec(DOUBLE))
        self.assertEqual(list(graph), [((0,), "00"), ((1,), "10"), ((2,), "10"), ((3,), "11")])
        self.assertEqual(graph.arcs(0), [(0, 1), (1, 2)])
        self.assertEqual(graph.edges(0), [(0, 1)])
        self.assertEqual(graph.after(0, (0, 1)), [1, 2])
        self.assertEqual(graph.after(0, (0, 0)), [])
        self.assertEqual(graph.after(0, (1, 1)), [])
        self.assertEqual(graph.after(1, (1, 1)), [3])
        self.assertEqual(graph.path(3), [0, 2])
        self.assertEqual(graph.arcs_into(3), [(1, 2), (2, 3)])

    def test_two_arcs_to_one_state(self):
        graph = explore(parse_spec("signal a input 0\nplaces 2 0\na+ 0 to 1\na+/2 0 to 1"))
        self.assertEqual(graph.arcs(0), [(0, 1), (1, 1)])
        self.assertEqual(graph.arcs_into(1), [(0, 0), (0, 1)])
        self.assertEqual(graph.after(0, (0, 1)), [1])
        self.assertEqual(graph.edges(0), [(0, 1)])

    def test_edges_and_states_after_are_ascending(self):
        spec = parse_spec("signal a input 0\nsignal b input 1\nplaces 4 0\nb- 0 to 1\na+ 0 to 2\nb-/2 0 to 3")
        graph = explore(spec)
        self.assertEqual(graph.edges(0), [(0, 1), (1, 0)])
        self.assertEqual(graph.after(0, (1, 0)), [1, 3])

    def test_one_marking_with_two_codes(self):
        spec = parse_spec("signal a input 0\nplaces 1 0\na+ 0 to 0\na- 0 to 0")
        with self.assertRaises(Inconsistent) as caught:
            explore(spec)
        self.assertEqual(caught.exception.sequence, [1])
        spec = parse_spec("signal a input 0\nsignal b input 0\nplaces 2 0\na+ 0 to 1\nb+ 0 to 1")
        self.assertEqual(list(explore(spec)), [((0,), "00"), ((1,), "10"), ((1,), "01")])

    def test_parts_of_each_state(self):
        graph = explore(parse_spec(CHOICE))
        for state, (marking, code) in enumerate(list(graph)):
            self.assertEqual(graph.marking(state), marking)
            self.assertEqual(graph.code(state), code)
            self.assertEqual(graph.state_at(marking, code), state)
        self.assertEqual(len(graph), 6)

    def test_pairs_that_are_no_state(self):
        graph = explore(parse_spec(CHOICE))
        for marking, code in (((0,), "001"), ((1,), "000"), ((), "000"), ((0, 1), "000"), ((6,), "000")):
            self.assertIsNone(graph.state_at(marking, code))

    def test_excited_signals(self):
        graph = explore(parse_spec(FORK))
        self.assertEqual([[graph.is_excited(state, signal) for signal in range(3)] for state in range(6)],
                         [[True, False, False], [False, True, True], [False, False, True],
                          [False, True, False], [True, False, False], [False, False, False]])

    def test_the_specification(self):
        spec = parse_spec(FORK)
        self.assertIs(explore(spec).spec, spec)
        self.assertEqual(spec, parse_spec(FORK))
        self.assertIsInstance(explore(spec), StateGraph)

    def test_iterating_twice(self):
        graph = explore(parse_spec(HANDSHAKE))
        self.assertEqual([pair for pair in graph], [pair for pair in graph])

    def test_no_transitions_and_no_places(self):
        graph = explore(Spec(Net(2, [], (1,)), [("a", "output")], [], "1"))
        self.assertEqual(list(graph), [((1,), "1")])
        self.assertEqual((len(graph), graph.path(0), graph.arcs(0), graph.arcs_into(0), graph.edges(0)),
                         (1, [], [], [], []))
        self.assertFalse(graph.is_excited(0, 0))
        self.assertEqual(graph.after(0, (0, 0)), [])
        graph = explore(parse_spec("places 0"), limit=1)
        self.assertEqual(list(graph), [((), "")])
        self.assertEqual(graph.state_at((), ""), 0)
        self.assertIsNone(graph.state_at((), "0"))

    def test_returned_lists_are_new(self):
        graph = explore(parse_spec(CHOICE))
        asks = [lambda: graph.path(5), lambda: graph.arcs(0), lambda: graph.arcs_into(5), lambda: graph.edges(0),
                lambda: graph.after(0, (0, 1)), lambda: list(graph)]
        for ask in asks:
            first = ask()
            expected = list(first)
            first.append("later")
            first[0] = "changed"
            self.assertEqual(ask(), expected)

    def test_paths_are_firing_sequences(self):
        graph = explore(chains_spec([3, 4, 2]))
        for state in range(len(graph)):
            self.assertEqual(graph.spec.net.fire_all(graph.path(state)), graph.marking(state))


class Faults(unittest.TestCase):
    def fault(self, text, error, **limit):
        with self.assertRaises(error) as caught:
            explore(parse_spec(text), **limit)
        return vars(caught.exception)

    def test_unsafe(self):
        text = "signal a input 0\nsignal b input 0\nplaces 5 0 1 3 4\na+ 0 to 2\nb+ 2 to 1 3\na- 2 to 0"
        self.assertEqual(self.fault(text, Unsafe), {"sequence": [0, 1], "place": 1})

    def test_unsafe_at_once(self):
        text = "signal a input 0\nplaces 3 0 1 2\na+ 0 to 1 2"
        self.assertEqual(self.fault(text, Unsafe), {"sequence": [0], "place": 1})

    def test_inconsistent(self):
        rising = "signal a input 1\nplaces 2 0\na+ 0 to 1"
        self.assertEqual(self.fault(rising, Inconsistent), {"sequence": [0]})
        falling = "signal a input 1\nplaces 3 0\na- 0 to 1\na-/2 1 to 2"
        self.assertEqual(self.fault(falling, Inconsistent), {"sequence": [0, 1]})

    def test_unsafe_comes_before_inconsistent(self):
        text = "signal a input 1\nplaces 2 0 1\na+ 0 to 1"
        self.assertEqual(self.fault(text, Unsafe), {"sequence": [0], "place": 1})

    def test_the_first_transition_that_is_a_fault_decides(self):
        text = "signal a input 0\nplaces 3 0 1\na- 0 to 2\na+ 0 to 1"
        self.assertEqual(self.fault(text, Inconsistent), {"sequence": [0]})
        text = "signal a input 0\nplaces 3 0 1\na+ 0 to 1\na- 0 to 2"
        self.assertEqual(self.fault(text, Unsafe), {"sequence": [0], "place": 1})

    def test_faults_of_earlier_states_come_first(self):
        # State 1 has a fault by its transition 3; state 2 would have one by transition 2.
        text = "signal a input 0\nsignal b input 0\nplaces 3 0\na+ 0 to 1\nb+ 0 to 2\nb+/2 2 to\na+/2 1 to"
        self.assertEqual(self.fault(text, Inconsistent), {"sequence": [0, 3]})

    def test_a_limit_that_is_met_exactly(self):
        for text, count in ((FORK, 6), (CHOICE, 6), (HANDSHAKE, 4), (DOUBLE, 4)):
            self.assertEqual(len(explore(parse_spec(text), limit=count)), count)
            self.assertEqual(self.fault(text, TooLarge, limit=count - 1), {"limit": count - 1})
            self.assertEqual(self.fault(text, TooLarge, limit=1), {"limit": 1})

    def test_a_fault_before_the_limit_is_passed(self):
        text = "signal a input 0\nsignal b input 0\nplaces 4 0\na- 0 to 1\na+ 0 to 2\nb+ 2 to 3"
        self.assertEqual(self.fault(text, Inconsistent, limit=1), {"sequence": [0]})
        text = "signal a input 0\nsignal b input 0\nplaces 4 0\na+ 0 to 1\nb- 1 to 2\nb+ 1 to 3"
        self.assertEqual(self.fault(text, Inconsistent, limit=2), {"sequence": [0, 1]})
        text = "signal a input 0\nplaces 3 0 1\na+ 0 to 1"
        self.assertEqual(self.fault(text, Unsafe, limit=1), {"sequence": [0], "place": 1})

    def test_a_fault_after_the_limit_is_passed(self):
        text = "signal a input 0\nsignal b input 0\nplaces 4 0\na+ 0 to 1\nb+ 1 to 2\nb+/2 2 to 3"
        self.assertEqual(self.fault(text, TooLarge, limit=2), {"limit": 2})
        self.assertEqual(self.fault(text, Inconsistent, limit=3), {"sequence": [0, 1, 2]})
        text = "signal a input 0\nsignal b input 0\nplaces 3 0\na+ 0 to 1\nb- 0 to 2"
        self.assertEqual(self.fault(text, TooLarge, limit=1), {"limit": 1})

    def test_without_a_limit(self):
        self.assertEqual(len(explore(chains_spec([10, 10, 10]))), 1000)
        with self.assertRaises(TooLarge) as caught:
            explore(chains_spec([7, 11, 13]))
        self.assertEqual(caught.exception.limit, 1000)
        self.assertEqual(len(explore(chains_spec([7, 11, 13]), limit=1001)), 1001)

    def test_the_limit_is_passed_by_keyword(self):
        with self.assertRaises(TypeError):
            explore(parse_spec(HANDSHAKE), 5)


class Reference(unittest.TestCase):
    def test_against_the_words_of_the_document(self):
        found = {}
        for seed in range(1200):
            spec = random_spec(seed)
            for limit in (1, 3, 1000):
                with self.subTest(seed=seed, limit=limit):
                    word = self.compare(spec, limit)
                    found[word] = found.get(word, 0) + 1
        self.assertEqual(sorted(found), ["Inconsistent", "TooLarge", "Unsafe", "graph"])
        self.assertTrue(min(found.values()) > 50, found)

    def test_machines_side_by_side(self):
        for seed in range(200):
            spec = random_machines(seed)
            with self.subTest(seed):
                self.assertEqual(self.compare(spec, 1000), "graph")
                self.assertIn(self.compare(spec, 4), ("graph", "TooLarge"))

    def compare(self, spec, limit):
        try:
            states, paths, arcs = reference_exploration(spec, limit)
        except Fault as fault:
            name, fields = fault.args
            with self.assertRaises(ClocklessError) as caught:
                explore(spec, limit=limit)
            self.assertEqual((caught.exception.__class__.__name__, vars(caught.exception)), (name, fields))
            return name
        graph = explore(spec, limit=limit)
        self.assertEqual(list(graph), states)
        for state in range(len(graph)):
            self.assertEqual(graph.path(state), paths[state])
            self.assertEqual(graph.arcs(state), arcs[state])
            self.assertEqual(graph.arcs_into(state), [(before, transition) for before in range(len(graph))
                                                      for transition, after in arcs[before] if after == state])
            self.assertEqual(graph.edges(state), sorted({spec.edges[transition] for transition, _ in arcs[state]}))
            for edge in spec.edges:
                self.assertEqual(graph.after(state, edge), sorted({after for transition, after in arcs[state]
                                                                   if spec.edges[transition] == edge}))
        return "graph"
