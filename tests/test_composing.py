"""Points 66 to 69: composable specifications, compositions, their traces, missed receptions."""

import random
import unittest

from clockless.composing import are_composable, compose, unreceived
from clockless.errors import Inconsistent, InvalidNet, NotComposable, TooLarge, Unsafe
from clockless.graphs import explore
from clockless.nets import Net
from clockless.specs import Spec
from clockless.spectext import format_spec, parse_spec
from tests.board_reference import enabled_transitions, fired
from tests.samples import HANDSHAKE, chains_spec, random_machines, ring

LONG = {"i": "input", "o": "output", "n": "inner"}


def spec_of(signals, *lines):
    """A specification; its signals are written as in "a i 0, b o 1"."""
    words = [part.split(" ") for part in signals.split(", ") if part]
    return parse_spec("\n".join([*[f"signal {name} {LONG[kind]} {value}" for name, kind, value in words], *lines]))


def still(signals):
    """A specification in which nothing happens."""
    return spec_of(signals, "places 0")


def lines_of(spec):
    return format_spec(spec).split("\n")


class Composable(unittest.TestCase):
    def told(self, first, second):
        first, second = still(first), still(second)
        answers = [are_composable(first, second), are_composable(second, first)]
        self.assertEqual(answers[0], answers[1])
        for one, other in ((first, second), (second, first)):
            for ask in (compose, unreceived):
                if answers[0]:
                    ask(one, other)
                else:
                    with self.assertRaises(NotComposable):
                        ask(one, other)
        return answers[0]

    def test_kinds(self):
        for kind in "ion":
            for other in "ion":
                expected = kind + other in ("ii", "io", "oi")
                self.assertEqual(self.told(f"a {kind} 0", f"a {other} 0"), expected)
                self.assertEqual(self.told(f"b i 0, a {kind} 1", f"a {other} 1, c i 0"), expected)
                self.assertTrue(self.told(f"a {kind} 0", f"b {other} 0"))

    def test_start_values(self):
        for value in "01":
            for other in "01":
                self.assertEqual(self.told(f"a i {value}", f"a o {other}"), value == other)
                self.assertEqual(self.told(f"a i {value}", f"a i {other}"), value == other)
                self.assertEqual(self.told(f"x o 0, a i {value}", f"b i 1, a o {other}"), value == other)
                self.assertTrue(self.told(f"a i {value}", f"b o {other}"))

    def test_one_of_several_names_does_not_suit(self):
        self.assertFalse(self.told("a i 0, b o 0, c i 0", "a o 0, b o 0, c i 0"))
        self.assertFalse(self.told("a i 0, b o 0, c i 0", "a o 0, b i 0, c i 1"))
        self.assertTrue(self.told("a i 0, b o 0, c i 0", "a o 0, b i 0, c i 0"))

    def test_the_number_of_names(self):
        def some(numbers):
            return ", ".join([f"x{k} i 0" for k in numbers])

        for first, second, expected in ((range(8), range(8), True), (range(8), range(1, 9), False),
                                        (range(4), range(4, 8), True), (range(4), range(4, 9), False),
                                        (range(5), range(3, 8), True), (range(5), range(3, 9), False),
                                        (range(8), (), True), ((), (), True), (range(8), (9,), False)):
            self.assertEqual(self.told(some(first), some(second)), expected)

    def test_with_the_mirror(self):
        spec = parse_spec(HANDSHAKE)
        self.assertTrue(are_composable(spec, spec.mirror()))
        self.assertFalse(are_composable(spec, spec))
        self.assertTrue(are_composable(ring("a+ b+ a- b-", kinds="ii"), ring("a+ b+ a- b-", kinds="ii")))


class Compositions(unittest.TestCase):
    def test_no_shared_name(self):
        first = spec_of("a i 0, b o 1", "places 2 0", "a+ 0 to 1", "b- 1 to 0")
        second = spec_of("c n 0", "places 3 0 2", "c+ 0 2 to 1", "c- 1 to 0 2")
        self.assertEqual(lines_of(compose(first, second)), [
            "signal a input 0", "signal b output 1", "signal c inner 0", "places 5 0 2 4", "a+ 0 to 1", "b- 1 to 0",
            "c+ 2 4 to 3", "c- 3 to 2 4"])
        self.assertEqual(lines_of(compose(second, first)), [
            "signal c inner 0", "signal a input 0", "signal b output 1", "places 5 0 2 3", "c+ 0 2 to 1", "c- 1 to 0 2",
            "a+ 3 to 4", "b- 4 to 3"])

    def test_some_shared_names(self):
        first = spec_of("a i 0, b o 0", "places 2 0", "a+ 0 to 1", "b+ 1 to 0")
        second = spec_of("c o 1, b i 0", "places 2 1", "c- 0 to 1", "b+ 1 to 0")
        self.assertEqual(lines_of(compose(first, second)), [
            "signal a input 0", "signal b output 0", "signal c output 1", "places 4 0 3", "a+ 0 to 1", "b+ 1 3 to 0 2",
            "c- 2 to 3"])
        self.assertEqual(lines_of(compose(second, first)), [
            "signal c output 1", "signal b output 0", "signal a input 0", "places 4 1 2", "c- 0 to 1", "b+ 1 3 to 0 2",
            "a+ 2 to 3"])

    def test_all_names_are_shared(self):
        spec = parse_spec(HANDSHAKE)
        self.assertEqual(lines_of(compose(spec, spec.mirror())), [
            "signal a output 0", "signal b output 0", "places 8 0 4", "a+ 0 4 to 1 5", "b+ 1 5 to 2 6", "a- 2 6 to 3 7",
            "b- 3 7 to 0 4"])

    def test_kinds_of_shared_signals(self):
        first = still("a i 0, b i 0, c o 0, d n 0, e o 0")
        second = still("c i 0, b o 0, a i 0, f n 1, g o 0")
        self.assertEqual(lines_of(compose(first, second)), [
            "signal a input 0", "signal b output 0", "signal c output 0", "signal d inner 0", "signal e output 0",
            "signal f inner 1", "signal g output 0", "places 0"])
        self.assertEqual(lines_of(compose(second, first)), [
            "signal c output 0", "signal b output 0", "signal a input 0", "signal f inner 1", "signal g output 0",
            "signal d inner 0", "signal e output 0", "places 0"])

    def test_start_values(self):
        first, second = still("a i 1, b i 0, c o 1"), still("d i 1, c i 1, e i 0, a o 1, f n 1")
        self.assertEqual(compose(first, second).start, "101101")
        self.assertEqual(compose(second, first).start, "110110")

    def test_no_partner(self):
        first = spec_of("a i 0", "places 2 0", "a+ 0 to 1", "a- 1 to 0")
        second = spec_of("a o 0", "places 2 0", "a+ 0 to 1")
        self.assertEqual(lines_of(compose(first, second)), ["signal a output 0", "places 4 0 2", "a+ 0 2 to 1 3"])
        self.assertEqual(lines_of(compose(second, first)), ["signal a output 0", "places 4 0 2", "a+ 0 2 to 1 3"])
        self.assertEqual(lines_of(compose(first, still("a o 0"))), ["signal a output 0", "places 2 0"])

    def test_several_partners(self):
        first = spec_of("a i 0, b i 0", "places 2 0", "a+ 0 to", "b+ 0 to 1", "a+/2 1 to")
        second = spec_of("b o 0, a o 0, c i 0", "places 3 0 1 2", "a+ 0 to 0", "c+ 0 to", "a+/2 1 to 1", "a- 0 to",
                         "b+ 2 to", "a+/3 0 1 2 to", "c- 0 to 2")
        self.assertEqual(lines_of(compose(first, second))[3:], [
            "places 5 0 2 3 4", "a+ 0 2 to 2", "a+/2 0 3 to 3", "a+/3 0 2 3 4 to", "b+ 0 4 to 1", "a+/4 1 2 to 2",
            "a+/5 1 3 to 3", "a+/6 1 2 3 4 to", "c+ 2 to", "c- 2 to 4"])
        self.assertEqual(lines_of(compose(second, first))[3:], [
            "places 5 0 1 2 3", "a+ 0 3 to 0", "a+/2 0 4 to 0", "c+ 0 to", "a+/3 1 3 to 1", "a+/4 1 4 to 1",
            "b+ 2 3 to 4", "a+/5 0 1 2 3 to", "a+/6 0 1 2 4 to", "c- 0 to 2"])

    def test_places_and_transitions_that_are_too_many(self):
        def loop(places, transitions, signal):
            arcs = [((k % places,), ((k + 1) % places,)) for k in range(transitions)]
            return Spec(Net(places, arcs, (0,)), [signal], [(0, 1)] * transitions, "0")

        first, second = ("a", "input"), ("b", "output")
        self.assertEqual(compose(loop(32, 1, first), loop(32, 1, second)).net.place_count, 64)
        self.assertEqual(len(compose(loop(8, 32, first), loop(8, 32, second)).net), 64)
        self.assertEqual(len(compose(loop(8, 8, first), loop(8, 8, ("a", "output"))).net), 64)
        for pair in ((loop(32, 1, first), loop(33, 1, second)), (loop(64, 1, first), loop(1, 1, second)),
                     (loop(8, 32, first), loop(8, 33, second)), (loop(8, 5, first), loop(8, 13, ("a", "output"))),
                     (loop(30, 64, first), loop(30, 64, ("a", "output")))):
            for ask in (compose, unreceived):
                with self.assertRaises(InvalidNet):
                    ask(*pair)
                with self.assertRaises(InvalidNet):
                    ask(*reversed(pair))

    def test_composable_is_asked_first(self):
        net = Net(64, [], ())
        with self.assertRaises(NotComposable):
            compose(Spec(net, [("a", "output")], [], "0"), Spec(net, [("a", "output")], [], "0"))

    def test_nothing_is_changed(self):
        first, second = parse_spec(HANDSHAKE), parse_spec(HANDSHAKE).mirror()
        compose(first, second)
        unreceived(first, second)
        self.assertEqual((first, second), (parse_spec(HANDSHAKE), parse_spec(HANDSHAKE).mirror()))


def side_of(seed, names, kinds):
    """A specification of these signals whose net is safe: one token walks between three or four places."""
    chance = random.Random(seed)
    places = chance.randint(2, 4)
    arcs = [((chance.randrange(places),), (chance.randrange(places),)) for _ in range(chance.randint(2, 7))]
    edges = [(chance.randrange(len(names)), chance.randrange(2)) for _ in arcs]
    return Spec(Net(places, arcs, (0,)), list(zip(names, kinds)), edges, "0" * len(names))


def pairs_of_sides():
    for seed in range(120):
        kinds = random.Random(seed).choice([("input", "output"), ("output", "input"), ("input", "input")])
        yield (side_of(2 * seed, "abc", (kinds[0], "output", "inner")),
               side_of(2 * seed + 1, "dba", ("output", "input", kinds[1])))


class Traces(unittest.TestCase):
    def moves(self, spec, marking):
        """The markings after each edge, told by the name of its signal and its value."""
        after = {}
        for transition in enabled_transitions(spec, marking):
            preset, postset = spec.net.transitions[transition]
            self.assertFalse((set(marking) - set(preset)) & set(postset))
            signal, value = spec.edges[transition]
            after.setdefault((spec.signals[signal][0], value), set()).add(fired(spec, marking, transition))
        return after

    def step(self, spec, markings, one):
        return {after for marking in markings for after in self.moves(spec, marking).get(one, ())}

    def test_views_are_traces_of_both_parts(self):
        """All traces of the composition and of both parts are followed side by side."""
        for first, second in pairs_of_sides():
            both = compose(first, second)
            specs = (first, second, both)
            names = [[name for name, _ in spec.signals] for spec in specs]
            waiting, seen = [tuple({spec.net.marked} for spec in specs)], []
            while waiting and len(seen) < 60:
                now = waiting.pop(0)
                for one in [(name, value) for name in "abcd" for value in (0, 1)]:
                    after = [self.step(spec, markings, one) if one[0] in known else markings
                             for spec, markings, known in zip(specs, now, names)]
                    self.assertEqual(bool(after[2]), bool(after[0] and after[1]), one)
                    if after[2] and after not in seen:
                        seen.append(after)
                        waiting.append(after)

    def test_both_orders_agree(self):
        for first, second in pairs_of_sides():
            one, other = compose(first, second), compose(second, first)
            self.assertEqual(sorted(one.signals), sorted(other.signals))
            self.assertEqual(len(one.net), len(other.net))
            waiting, seen = [({one.net.marked}, {other.net.marked})], []
            while waiting and len(seen) < 60:
                now = waiting.pop(0)
                edges = [{edge for marking in markings for edge in self.moves(spec, marking)}
                         for spec, markings in zip((one, other), now)]
                self.assertEqual(edges[0], edges[1])
                for edge in edges[0]:
                    after = (self.step(one, now[0], edge), self.step(other, now[1], edge))
                    if after not in seen:
                        seen.append(after)
                        waiting.append(after)


class Unreceived(unittest.TestCase):
    def test_none(self):
        spec = parse_spec(HANDSHAKE)
        self.assertIsNone(unreceived(spec, spec.mirror()))
        self.assertIsNone(unreceived(spec.mirror(), spec))
        for seed in range(40):
            spec = random_machines(seed)
            if spec.net.place_count <= 32 and len(spec.net) ** 2 <= 64 and "inner" not in [k for _, k in spec.signals]:
                self.assertIsNone(unreceived(spec, spec.mirror()))

    def test_no_shared_name(self):
        self.assertIsNone(unreceived(ring("a+ a-", kinds="o"), ring("b+ b-", kinds="o")))

    def test_an_output_of_the_first(self):
        first = spec_of("a o 0, b i 0", "places 2 0", "a+ 0 to 1", "b+ 1 to")
        second = spec_of("b o 0, a i 0", "places 2 0", "b+ 0 to 1", "a+ 1 to")
        # Each waits for the other one, so neither moves; both miss a reception at the beginning.
        self.assertEqual(unreceived(first, second), ([], (0, 1)))
        self.assertEqual(unreceived(second, first), ([], (0, 1)))
        first = spec_of("x i 0, a o 0", "places 2 0", "x+ 0 to 1", "a+ 1 to")
        self.assertEqual(unreceived(first, spec_of("a i 0", "places 1", "a+ 0 to")), ([0], (1, 1)))
        self.assertEqual(unreceived(spec_of("a i 0", "places 1", "a+ 0 to"), first), ([1], (0, 1)))

    def test_an_output_of_the_second(self):
        first = spec_of("c n 0, a i 0", "places 3 0", "c+ 0 to 1", "a+ 1 to 2", "c- 2 to")
        second = spec_of("d o 0, a o 0, e o 0", "places 3 0", "d+ 0 to 1", "a+ 1 to", "e+ 1 to 2")
        # Before c+ the second one may have done d+ and want a+.
        self.assertEqual(unreceived(first, second), ([3], (1, 1)))
        self.assertEqual(compose(first, second).transition_text(3), "d+")
        self.assertEqual(unreceived(second, first), ([0], (1, 1)))

    def test_an_edge_that_the_other_one_never_has(self):
        first = spec_of("a o 0", "places 2 0", "a+ 0 to 1", "a- 1 to")
        second = spec_of("a i 0", "places 2 0", "a+ 0 to 1")
        self.assertEqual(unreceived(first, second), ([0], (0, 0)))
        self.assertEqual(unreceived(second, first), ([0], (0, 0)))

    def test_inputs_need_not_be_received(self):
        # The first one would take a+, b+ and c+; only what is an output matters.
        first = spec_of("a i 0, b i 0, c i 0", "places 1 0", "a+ 0 to", "b+ 0 to", "c+ 0 to")
        second = spec_of("a o 0, b i 0, c o 0", "places 2 0", "c+ 0 to 1")
        self.assertIsNone(unreceived(first, second))
        self.assertIsNone(unreceived(second, first))

    def test_the_smallest_of_several_edges(self):
        first = spec_of("a o 0, b o 0, c i 0", "places 1 0", "b+ 0 to", "a+ 0 to", "a- 0 to", "c- 0 to")
        second = spec_of("c o 0, b i 0, a i 0", "places 1 0", "c+ 0 to", "a+ 0 to")
        self.assertEqual(unreceived(first, second), ([], (0, 0)))
        # In the composition in the other order c has the number 0.
        self.assertEqual(unreceived(second, first), ([], (0, 1)))
        first = spec_of("a o 0, b o 0", "places 1 0", "b+ 0 to", "a+ 0 to")
        second = spec_of("b i 0, a i 0", "places 1 0", "a+ 0 to")
        self.assertEqual(unreceived(first, second), ([], (1, 1)))
        self.assertEqual(unreceived(second, first), ([], (0, 1)))

    def test_the_smallest_state(self):
        first = spec_of("x i 0, y i 0, a o 0", "places 4 0 1", "x+ 0 to 2", "y+ 1 to 3", "a+ 3 to", "a+/2 2 to")
        second = spec_of("a i 0", "places 1", "a+ 0 to")
        self.assertEqual(unreceived(first, second), ([0], (2, 1)))

    def test_one_token_is_not_enough(self):
        """The partner is enabled at the marking of its own net, whatever its code is."""
        first = spec_of("a o 0", "places 1 0", "a+ 0 to 0")
        second = spec_of("a i 0", "places 2 0 1", "a+ 0 1 to 1")
        self.assertEqual(unreceived(first, second), ([0], (0, 1)))

    def test_against_the_words_of_the_point(self):
        found = {}
        for first, second in pairs_of_sides():
            try:
                graph = explore(compose(first, second), limit=300)
            except (Unsafe, Inconsistent, TooLarge) as error:
                with self.assertRaises(error.__class__) as caught:
                    unreceived(first, second, limit=300)
                self.assertEqual(vars(caught.exception), vars(error))
                continue
            expected = self.missed(first, second, graph)
            self.assertEqual(unreceived(first, second, limit=300), expected)
            found[expected is None] = found.get(expected is None, 0) + 1
        self.assertGreater(min(found.values()), 3)
        self.assertEqual(len(found), 2)

    def missed(self, first, second, graph):
        names = [name for name, _ in graph.spec.signals]
        for state in range(len(graph)):
            places = graph.marking(state)
            wants = []
            for spec, marking in ((first, tuple(k for k in places if k < first.net.place_count)),
                                  (second, tuple(k - first.net.place_count for k in places
                                                 if k >= first.net.place_count))):
                wants.append({(spec.signals[spec.edges[k][0]], spec.edges[k][1])
                              for k in enabled_transitions(spec, marking)})
            missed = []
            for one, other, spec in ((wants[0], wants[1], second), (wants[1], wants[0], first)):
                for (name, kind), value in one:
                    shared = name in [known for known, _ in spec.signals]
                    if kind == "output" and shared and (name, value) not in [(k, v) for (k, _), v in other]:
                        missed.append((names.index(name), value))
            if missed:
                return (graph.path(state), min(missed))
        return None


class Exploring(unittest.TestCase):
    def test_the_limit(self):
        spec = parse_spec(HANDSHAKE)
        self.assertIsNone(unreceived(spec, spec.mirror(), limit=4))
        with self.assertRaises(TooLarge) as caught:
            unreceived(spec, spec.mirror(), limit=3)
        self.assertEqual(caught.exception.limit, 3)

    def test_without_a_limit(self):
        self.assertIsNone(unreceived(chains_spec((10, 10)), self.other(10)))
        with self.assertRaises(TooLarge) as caught:
            unreceived(chains_spec((10, 10)), self.other(11))
        self.assertEqual(caught.exception.limit, 1000)

    def other(self, length):
        spec = chains_spec((length,))
        return Spec(spec.net, [("other", "output")], spec.edges, "0")

    def test_the_limit_is_met_after_a_missed_reception(self):
        """All of the graph is explored first."""
        first = spec_of("a o 0, b o 0", "places 2 0 1", "a+ 0 to", "b+ 1 to")
        second = spec_of("a i 0", "places 1", "a+ 0 to")
        self.assertEqual(unreceived(first, second, limit=2), ([], (0, 1)))
        with self.assertRaises(TooLarge):
            unreceived(first, second, limit=1)

    def test_unsafe_and_inconsistent(self):
        first = spec_of("a i 0, b i 0", "places 2 0 1", "a+ 0 to 1", "b+ 1 to")
        with self.assertRaises(Unsafe) as caught:
            unreceived(spec_of("c i 0", "places 1 0"), first)
        self.assertEqual((caught.exception.sequence, caught.exception.place), ([0], 2))
        first = spec_of("a i 0", "places 3 0", "a+ 0 to 1", "a+/2 1 to 2")
        with self.assertRaises(Inconsistent) as caught:
            unreceived(first, spec_of("b o 0", "places 1 0", "b+ 0 to 0"))
        self.assertEqual(caught.exception.sequence, [0, 1])
