"""Points 36 and 37: monotonous cubes, the least of them, and monotonous covers."""

import itertools
import unittest

from clockless.checks import is_implementable
from clockless.graphs import explore
from clockless.monotone import is_monotonous, least_monotonous, monotonous_cover
from clockless.regions import regions
from clockless.spectext import parse_spec
from tests.samples import HANDSHAKE, machine, random_loop, random_machines, ring


def graph_of(codes, arcs, kinds):
    return explore(machine(codes, arcs, kinds=kinds))


def turned(text):
    """A code or cube with the other value of b: what rose falls then."""
    return text[0] + {"0": "1", "1": "0", "-": "-"}[text[1]] + text[2:]


def all_cubes(width):
    return ["".join(characters) for characters in itertools.product("-01", repeat=width)]


def inside(cube, code):
    return all(character in ("-", value) for character, value in zip(cube, code))


def reference_phase(graph, state, edge):
    """The phase of the edge's signal, exchanged if the edge is a falling one."""
    signal, value = edge
    edges = [graph.spec.edges[transition] for transition, _ in graph.arcs(state)]
    up, down = (signal, value) in edges, (signal, 1 - value) in edges
    if up or down:
        return "rising" if up else "falling"
    return "high" if int(graph.code(state)[signal]) == value else "low"


def broken_conditions(graph, edge, region, cube):
    """The numbers of the conditions of point 36 that the cube breaks, and "2b" for another region."""
    phases = [reference_phase(graph, state, edge) for state in range(len(graph))]
    has = [inside(cube, graph.code(state)) for state in range(len(graph))]
    broken = []
    if not all(has[state] for state in region):
        broken.append("1")
    if any(has[state] and phases[state] in ("low", "falling") for state in range(len(graph))):
        broken.append("2")
    if any(has[state] and phases[state] == "rising" and state not in region for state in range(len(graph))):
        broken.append("2b")
    if any(phases[one] in ("rising", "high") and phases[two] == "high" and has[two] and not has[one]
           for one in range(len(graph)) for _, two in graph.arcs(one)):
        broken.append("3")
    return broken


# b rises in 1 and falls in 3; c changes while b is rising, high, falling and low.
SIDE = (["000", "100", "110", "010", "101", "111", "011", "001"],
        [(0, 1), (1, 2), (2, 3), (3, 0), (0, 7), (1, 4), (2, 5), (3, 6), (7, 4), (4, 5), (5, 6), (6, 7)])

# b rises in 1 and in 6; in between it falls, and c rises.
TWICE = (["000", "100", "110", "010", "000", "001", "101", "111", "011", "001"],
         [(0, 1), (1, 2), (2, 3), (3, 4), (4, 5), (5, 6), (6, 7), (7, 8), (8, 9), (9, 0)])

# b rises in 1; while it is high, a falls and rises again.
LONG = (["000", "100", "110", "010", "011", "111"], [(0, 1), (1, 2), (2, 3), (3, 4), (4, 5)])

# c rises as soon as a or b has risen.
EITHER = (["000", "100", "010", "110", "101", "011", "111"],
          [(0, 1), (0, 2), (1, 3), (1, 4), (2, 3), (2, 5), (3, 6), (4, 6), (5, 6)])


# Some cubes with the conditions that they break for the first region of b's rising edge.
CUBES = [
    (SIDE, [1, 4], {"1--": "", "10-": "", "1-0": "1", "100": "1", "101": "1", "---": "2", "-0-": "2"}),
    (TWICE, [1], {"1-0": "", "100": "", "--0": "2", "-00": "2", "1--": "2b", "10-": "2b"}),
    (TWICE, [6], {"1-1": "", "101": "", "--1": "2", "-01": "2", "1--": "2b", "10-": "2b"}),
    (LONG, [1], {"1-0": "", "10-": "", "100": "", "101": "1", "--0": "2", "-0-": "2", "1--": "3"}),
]


class Monotonous(unittest.TestCase):
    def test_a_handshake(self):
        graph = explore(parse_spec(HANDSHAKE))
        self.assertEqual([cube for cube in all_cubes(2) if is_monotonous(graph, (1, 1), [1], cube)], ["1-", "10"])
        self.assertEqual([cube for cube in all_cubes(2) if is_monotonous(graph, (1, 0), [3], cube)], ["0-", "01"])

    def test_each_condition_broken_alone(self):
        for (codes, arcs), region, cubes in CUBES:
            rising = graph_of(codes, arcs, "ioi")
            falling = graph_of([turned(code) for code in codes], arcs, "ioi")
            for cube, condition in cubes.items():
                for graph, value, own in ((rising, 1, cube), (falling, 0, turned(cube))):
                    with self.subTest(cube=own, value=value, region=region):
                        self.assertIn(region, regions(graph, (1, value)))
                        broken = broken_conditions(graph, (1, value), region, own)
                        self.assertEqual(broken, [condition] if condition else [])
                        self.assertEqual(is_monotonous(graph, (1, value), region, own), condition == "")

    def test_a_low_state_alone(self):
        # "-0" contains 10, in which b rises, and 00, in which it is low; it falls in 01.
        self.assertFalse(is_monotonous(explore(parse_spec(HANDSHAKE)), (1, 1), [1], "-0"))
        self.assertFalse(is_monotonous(explore(parse_spec(HANDSHAKE)), (1, 0), [3], "-1"))

    def test_a_falling_state_alone(self):
        # a is never low or high: it rises in 0 and falls in 1.
        graph = graph_of(["0", "1"], [(0, 1), (1, 0)], "o")
        self.assertEqual([is_monotonous(graph, (0, 1), [0], cube) for cube in "-01"], [False, True, False])
        self.assertEqual([is_monotonous(graph, (0, 0), [1], cube) for cube in "-01"], [False, False, True])

    def test_states_outside_the_regions_of_the_edge_may_be_contained(self):
        # "1--" contains the codes of both states of the region and of states in which b is high.
        graph = graph_of(SIDE[0], SIDE[1], "ioi")
        self.assertTrue(is_monotonous(graph, (1, 1), [1, 4], "1--"))

    def test_against_the_words_of_the_document(self):
        found = {}
        for graph in some_graphs():
            for edge in driven_edges(graph):
                for region in regions(graph, edge):
                    for cube in all_cubes(len(graph.spec)):
                        broken = broken_conditions(graph, edge, region, cube)
                        self.assertEqual(is_monotonous(graph, edge, region, cube), broken == [])
                        found[tuple(broken)] = found.get(tuple(broken), 0) + 1
        for condition in ((), ("1",), ("2",), ("2b",), ("3",)):
            self.assertGreater(found[condition], 5)


class Least(unittest.TestCase):
    def test_the_fewest_literals(self):
        graph = graph_of(SIDE[0], SIDE[1], "ioi")
        self.assertEqual(least_monotonous(graph, (1, 1), [1, 4]), "1--")
        self.assertEqual(least_monotonous(graph, (1, 0), [5, 7]), "0--")
        graph = graph_of(TWICE[0], TWICE[1], "ioi")
        self.assertEqual(least_monotonous(graph, (1, 1), [1]), "1-0")
        self.assertEqual(least_monotonous(graph, (1, 1), [6]), "1-1")
        self.assertEqual(least_monotonous(graph, (1, 0), [3]), "010")
        self.assertEqual(least_monotonous(graph, (1, 0), [8]), "011")

    def test_fewer_literals_come_before_smaller_characters(self):
        graph = graph_of(["1000", "1100", "0100", "0110", "0010", "0011", "0001"], [(k, k + 1) for k in range(6)], "ioii")
        for cube, good in (("--00", True), ("1---", True), ("----", False), ("---0", False), ("--0-", False)):
            self.assertEqual(is_monotonous(graph, (1, 1), [0], cube), good)
        self.assertEqual(least_monotonous(graph, (1, 1), [0]), "1---")

    def test_of_several_the_least(self):
        graph = graph_of(LONG[0], LONG[1], "ioi")
        self.assertEqual([cube for cube in all_cubes(3) if is_monotonous(graph, (1, 1), [1], cube)],
                         ["1-0", "10-", "100"])
        self.assertEqual(least_monotonous(graph, (1, 1), [1]), "1-0")

    def test_a_dash_comes_before_0_and_0_before_1(self):
        # b rises with a = 1 and c = 0, and either of the two alone tells it.
        graph = graph_of(["001", "101", "100", "110", "111"], [(0, 1), (1, 2), (2, 3), (3, 4)], "ioi")
        self.assertEqual([cube for cube in all_cubes(3) if is_monotonous(graph, (1, 1), [2], cube)],
                         ["--0", "-00", "1-0", "100"])
        graph = graph_of(["001", "000", "100", "110"], [(0, 1), (1, 2), (2, 3)], "ioi")
        self.assertEqual(least_monotonous(graph, (1, 1), [2]), "1--")
        graph = graph_of(["010", "110", "100", "101"], [(0, 1), (1, 2), (2, 3)], "iio")
        self.assertEqual([cube for cube in all_cubes(3) if is_monotonous(graph, (2, 1), [2], cube)],
                         ["-0-", "-00", "10-", "100"])
        graph = graph_of(["00", "10", "11"], [(0, 1), (1, 2)], "oo")
        self.assertEqual([least_monotonous(graph, (0, 1), [0]), least_monotonous(graph, (1, 1), [1])], ["--", "1-"])

    def test_a_single_region_without_a_monotonous_cube(self):
        graph = graph_of(EITHER[0], EITHER[1], "iio")
        self.assertTrue(is_implementable(graph))
        self.assertEqual(regions(graph, (2, 1)), [[1, 2, 3]])
        self.assertIsNone(least_monotonous(graph, (2, 1), [1, 2, 3]))
        self.assertIsNone(monotonous_cover(graph, (2, 1)))
        self.assertEqual(monotonous_cover(graph, (2, 0)), [])

    def test_against_a_search_of_all_cubes(self):
        none = 0
        for graph in some_graphs():
            for edge in driven_edges(graph):
                expected = []
                for region in regions(graph, edge):
                    good = [cube for cube in all_cubes(len(graph.spec))
                            if not broken_conditions(graph, edge, region, cube)]
                    least = min(good, key=lambda cube: (len(cube) - cube.count("-"), cube), default=None)
                    self.assertEqual(least_monotonous(graph, edge, region), least)
                    expected.append(least)
                none += None in expected
                self.assertEqual(monotonous_cover(graph, edge), None if None in expected else expected)
        self.assertGreater(none, 20)


class Covers(unittest.TestCase):
    def test_in_the_order_of_the_regions(self):
        graph = graph_of(TWICE[0], TWICE[1], "ioi")
        self.assertEqual(monotonous_cover(graph, (1, 1)), ["1-0", "1-1"])
        self.assertEqual(monotonous_cover(graph, (1, 0)), ["010", "011"])

    def test_of_an_edge_without_a_region(self):
        graph = graph_of(LONG[0], LONG[1], "ioi")
        self.assertEqual(monotonous_cover(graph, (1, 0)), [])
        self.assertEqual(monotonous_cover(explore(parse_spec("signal a output 0\nplaces 0")), (0, 1)), [])

    def test_one_region_without_a_cube_is_enough(self):
        # a falls in 0 and in 2, which have one code and no link.
        graph = graph_of(["1", "0", "1"], [(0, 1), (1, 2), (2, 1)], "o")
        self.assertEqual(regions(graph, (0, 0)), [[0], [2]])
        self.assertIsNone(monotonous_cover(graph, (0, 0)))
        self.assertEqual(monotonous_cover(graph, (0, 1)), ["0"])
        # b rises in 1 and in 6; in the second graph the code of 6 is also that of 4, in which b is low.
        codes = ["0000", "1000", "1100", "1101", "1001", "1011", "1010", "1110"]
        arcs = [(0, 1), (1, 2), (2, 3), (3, 4), (4, 5), (5, 6), (6, 7)]
        graph = graph_of(codes, arcs, "ioii")
        self.assertEqual(regions(graph, (1, 1)), [[1], [6]])
        self.assertEqual(monotonous_cover(graph, (1, 1)), ["1-00", "--10"])
        graph = graph_of(codes[:6] + ["1001", "1101"], arcs, "ioii")
        self.assertEqual(regions(graph, (1, 1)), [[1], [6]])
        self.assertEqual([least_monotonous(graph, (1, 1), [1]), least_monotonous(graph, (1, 1), [6])], ["1--0", None])
        self.assertIsNone(monotonous_cover(graph, (1, 1)))

    def test_returned_lists_are_new(self):
        graph = graph_of(TWICE[0], TWICE[1], "ioi")
        monotonous_cover(graph, (1, 1)).append("---")
        self.assertEqual(monotonous_cover(graph, (1, 1)), ["1-0", "1-1"])

    def test_the_region_that_is_passed_stays_as_it_was(self):
        graph = graph_of(SIDE[0], SIDE[1], "ioi")
        region = [1, 4]
        least_monotonous(graph, (1, 1), region)
        is_monotonous(graph, (1, 1), region, "1--")
        self.assertEqual(region, [1, 4])


def some_graphs():
    """Graphs of at most four signals, also some that are not coded."""
    graphs = [explore(random_machines(seed)) for seed in range(150)] + [explore(random_loop(k)) for k in range(60)]
    graphs += [explore(ring("a+ b+ a- c+ a+ b- a- c-", kinds="ioo")), graph_of(EITHER[0], EITHER[1], "iio")]
    return [graph for graph in graphs if len(graph.spec) <= 4]


def driven_edges(graph):
    return [(signal, value) for signal in graph.spec.driven for value in (0, 1)]
