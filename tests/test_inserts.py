"""Points 39, 40 and 42: insertion points, inserting a signal, and the candidates in their order."""

import unittest

from clockless.errors import Refusal
from clockless.graphs import explore
from clockless.inserts import candidates, insert, insertion_points, new_name
from clockless.nets import Net
from clockless.specs import Spec
from clockless.spectext import format_spec, parse_spec
from clockless.traces import follow, trace_of, view
from tests.samples import HANDSHAKE, random_loop, random_spec, ring

# Place 1 has two consumers; d+ takes from two places that nothing else takes from.
MIXED = "\n".join([
    "signal a input 0", "signal b output 0", "signal c inner 0", "signal d output 0", "places 7 0 5",
    "a+ 0 to 1", "b+ 1 to 2", "c+ 1 to 3", "d+ 2 5 to 4", "a- 4 to 6", "b- 3 6 to 0", "d- 6 to 5",
])


def chain_spec(kinds, *, places, edges):
    """One token that moves along a chain; the last places have no transition."""
    transitions = [((k,), (k + 1,)) for k in range(len(edges))]
    return Spec(Net(places, transitions, (0,)), [(f"x{k}", kind) for k, kind in enumerate(kinds)], edges,
                "0" * len(kinds))


def up_and_down(count):
    return [(0, 1 - k % 2) for k in range(count)]


class Points(unittest.TestCase):
    def test_driven_transitions_only(self):
        self.assertEqual(insertion_points(parse_spec(HANDSHAKE)), [1, 3])
        self.assertEqual(insertion_points(parse_spec(HANDSHAKE).mirror()), [0, 2])
        self.assertEqual(insertion_points(ring("a+ b+ a- b-", kinds="in")), [1, 3])
        self.assertEqual(insertion_points(ring("a+ b+ a- b-", kinds="ii")), [])
        self.assertEqual(insertion_points(parse_spec("places 0")), [])

    def test_no_other_consumer(self):
        # 1 and 2 share place 1, 5 and 6 share place 6; 3 has two places of its own.
        self.assertEqual(insertion_points(parse_spec(MIXED)), [3])

    def test_every_place_of_the_preset_counts(self):
        lines = ["signal a output 0", "signal b output 0", "places 4 0 1 2", "a+ 0 1 to 3", "b+ 2 to"]
        self.assertEqual(insertion_points(parse_spec("\n".join(lines))), [0, 1])
        for place in (0, 1):
            other = lines[:-1] + [f"b+ {place} 2 to"]
            self.assertEqual(insertion_points(parse_spec("\n".join(other))), [])

    def test_an_input_that_consumes_counts(self):
        lines = ["signal a output 0", "signal b input 0", "places 2 0", "a+ 0 to 1", "b+ 0 to 1", "a- 1 to 0"]
        self.assertEqual(insertion_points(parse_spec("\n".join(lines))), [2])

    def test_its_own_place_again_and_other_producers(self):
        lines = ["signal a output 0", "signal b output 0", "places 2 0 1", "a+ 0 to 0", "b+ 1 to 0"]
        self.assertEqual(insertion_points(parse_spec("\n".join(lines))), [0, 1])

    def test_returned_lists_are_new(self):
        spec = parse_spec(HANDSHAKE)
        insertion_points(spec).clear()
        self.assertEqual(insertion_points(spec), [1, 3])


class Names(unittest.TestCase):
    def named(self, *names):
        return new_name(Spec(Net(0, [], ()), [(name, "input") for name in names], [], "0" * len(names)))

    def test_the_first_that_is_free(self):
        self.assertEqual(self.named(), "s0")
        self.assertEqual(self.named("a", "s", "s00"), "s0")
        self.assertEqual(self.named("a", "s0"), "s1")
        self.assertEqual(self.named("s1", "s0"), "s2")
        self.assertEqual(self.named("s1"), "s0")
        self.assertEqual(self.named("s0", "s2"), "s1")
        self.assertEqual(self.named("s0", "s1", "s2", "s3", "s4", "s5", "s6", "s7"), "s8")


class Insert(unittest.TestCase):
    def test_all_parts_for_both_start_values(self):
        for value in "01":
            spec = parse_spec(HANDSHAKE)
            result = insert(spec, "s0", rise=1, fall=3, value=value)
            self.assertEqual(format_spec(result), "\n".join([
                "signal a input 0", "signal b output 0", f"signal s0 inner {value}", "places 6 0",
                "a+ 0 to 1", "b+ 4 to 2", "a- 2 to 3", "b- 5 to 0", "s0+ 1 to 4", "s0- 3 to 5",
            ]))
            self.assertEqual(spec, parse_spec(HANDSHAKE))

    def test_the_other_way_round(self):
        result = insert(parse_spec(HANDSHAKE), "x", rise=3, fall=1, value="1")
        self.assertEqual(format_spec(result), "\n".join([
            "signal a input 0", "signal b output 0", "signal x inner 1", "places 6 0",
            "a+ 0 to 1", "b+ 5 to 2", "a- 2 to 3", "b- 4 to 0", "x+ 3 to 4", "x- 1 to 5",
        ]))

    def test_presets_of_several_places_and_empty_postsets(self):
        text = "\n".join(["signal a output 0", "signal b output 1", "places 5 0 1 2", "a+ 0 1 to 0 3", "b- 2 3 to"])
        result = insert(parse_spec(text), "new", rise=1, fall=0, value="1")
        self.assertEqual(result.net.transitions, (((6,), (0, 3)), ((5,), ()), ((2, 3), (5,)), ((0, 1), (6,))))
        self.assertEqual((result.net.place_count, result.net.marked), (7, (0, 1, 2)))
        self.assertEqual(result.edges, ((0, 1), (1, 0), (2, 1), (2, 0)))
        self.assertEqual(result.signals, (("a", "output"), ("b", "output"), ("new", "inner")))
        self.assertEqual(result.start, "011")

    def test_seven_signals_and_62_places_and_transitions(self):
        spec = chain_spec(["output"] * 7, places=62, edges=up_and_down(61))
        spec = Spec(Net(62, [*spec.net.transitions, ((61,), (0,))], (0,)), spec.signals, up_and_down(62), spec.start)
        result = insert(spec, "s0", rise=0, fall=61, value="0")
        self.assertEqual((len(result), result.net.place_count, len(result.net)), (8, 64, 64))
        self.assertEqual(result.net.preset(61), (63,))
        self.assertEqual(result.net.transitions[62:], (((0,), (62,)), ((61,), (63,))))

    def test_the_result_does_what_the_specification_does(self):
        """Point 41: the views of the traces for the old signals are the traces."""
        compared = 0
        for seed in range(250):
            spec = random_loop(seed) if seed < 150 else random_spec(seed)
            for rise, fall, value in list(candidates(spec))[:12]:
                try:
                    grown = explore(insert(spec, "s0", rise=rise, fall=fall, value=value), limit=200)
                except Refusal:
                    continue
                compared += 1
                self.compare(explore(spec), grown)
        self.assertGreater(compared, 300)

    def compare(self, graph, grown):
        old = range(len(graph.spec))
        for state in range(len(grown)):
            seen = view(trace_of(grown.spec, grown.path(state)), signals=list(old))
            ends = follow(graph, seen)
            self.assertNotEqual(ends, [])
            self.assertIn(grown.code(state)[:-1], [graph.code(end) for end in ends])
        reached = {code[:-1] for _, code in grown}
        self.assertEqual(reached, {code for _, code in graph})


class Candidates(unittest.TestCase):
    def test_in_their_order(self):
        self.assertEqual(list(candidates(parse_spec(HANDSHAKE))), [(1, 3, "0"), (1, 3, "1"), (3, 1, "0"), (3, 1, "1")])
        self.assertEqual(list(candidates(ring("a+ b+ b- a- b+ b-", kinds="io"))), [
            (1, 2, "0"), (1, 2, "1"), (1, 4, "0"), (1, 4, "1"), (1, 5, "0"), (1, 5, "1"),
            (2, 1, "0"), (2, 1, "1"), (2, 4, "0"), (2, 4, "1"), (2, 5, "0"), (2, 5, "1"),
            (4, 1, "0"), (4, 1, "1"), (4, 2, "0"), (4, 2, "1"), (4, 5, "0"), (4, 5, "1"),
            (5, 1, "0"), (5, 1, "1"), (5, 2, "0"), (5, 2, "1"), (5, 4, "0"), (5, 4, "1"),
        ])

    def test_with_one_insertion_point_or_none(self):
        self.assertEqual(list(candidates(parse_spec(MIXED))), [])
        self.assertEqual(list(candidates(parse_spec("places 0"))), [])

    def test_seven_and_eight_signals(self):
        edges = up_and_down(2)
        self.assertEqual(len(list(candidates(chain_spec(["output"] * 7, places=3, edges=edges)))), 4)
        self.assertEqual(list(candidates(chain_spec(["output"] * 8, places=3, edges=edges))), [])

    def test_62_and_63_places(self):
        edges = up_and_down(2)
        self.assertEqual(len(list(candidates(chain_spec(["output"], places=62, edges=edges)))), 4)
        self.assertEqual(list(candidates(chain_spec(["output"], places=63, edges=edges))), [])
        self.assertEqual(list(candidates(chain_spec(["output"], places=64, edges=edges))), [])

    def test_62_and_63_transitions(self):
        # The first 30 are insertion points; the others share place 60.
        transitions = [((k, k + 1), ()) for k in range(0, 60, 2)] + [((60,), ())] * 34
        for count, found in ((62, 30 * 29 * 2), (63, 0), (64, 0)):
            spec = Spec(Net(61, transitions[:count], ()), [("a", "output")], up_and_down(count), "0")
            self.assertEqual(len(insertion_points(spec)), 30)
            self.assertEqual(len(list(candidates(spec))), found)

    def test_the_specification_stays_as_it_was(self):
        spec = parse_spec(HANDSHAKE)
        list(candidates(spec))
        self.assertEqual(spec, parse_spec(HANDSHAKE))
